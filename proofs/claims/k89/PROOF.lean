import PyProof.Rows.All
import Wide.All
import OpenK.AllK
import Wide.FinOn
import Lean
import PyProof.EqAt
import PyProof.EqKinds
import PyProof.TupleCall
import PySem.Challenge.RW_loopwright_k89_whole_what_sums_are_like
set_option Elab.async false
set_option linter.all false
set_option maxRecDepth 100000
namespace L2
open PySem PySem.Spec PyProof.Rows
noncomputable abbrev Key := Sum Int Str
noncomputable def a6s : Key → Value → Bool
 | .inl k, v => Value.isInt k v
 | .inr x, v => Value.isStrOf x v
noncomputable def keyH (w : World) : Key → Int
 | .inl k => hashInt k
 | .inr x => hashStr w x
theorem a0D : ∀ {k : Key} {v : Value}, a6s k v = true → (∃ i t, k = Sum.inl i ∧ v = Value.int i t) ∨ (∃ x t, k = Sum.inr x ∧ v = Value.str x t)
 | .inl i, v, h => by
   obtain ⟨t, e⟩ := Value.isInt_shape (k := i) (v := v) h
   exact .inl ⟨i, t, rfl, e⟩
 | .inr x, v, h => by
   obtain ⟨t, e⟩ := Value.isStrOf_shape (x := x) (v := v) h
   exact .inr ⟨x, t, rfl, e⟩
theorem a8X (i : Int) (t : Tok) : a6s (.inl i) (.int i t) = true := by simp [a6s, Value.isInt]
theorem a8W (x : Str) (t : Tok) : a6s (.inr x) (.str x t) = true := by simp [a6s, Value.isStrOf]
theorem c0J (a b : Int) : decide ((Sum.inl a : Key) = Sum.inl b) = (a == b) := by
 by_cases e : a = b
 ·subst e; simp
 ·have h : ¬ (Sum.inl a : Key) = Sum.inl b := fun q => e (Sum.inl.inj q)
  rw [decide_eq_false h]
  exact (beq_eq_false_iff_ne.mpr e).symm
theorem c0G (a b : Str) : decide ((Sum.inr a : Key) = Sum.inr b) = decide (a = b) := by
 by_cases e : a = b
 ·subst e; simp
 ·have h : ¬ (Sum.inr a : Key) = Sum.inr b := fun q => e (Sum.inr.inj q)
  rw [decide_eq_false h, decide_eq_false e]
theorem c0I (a : Int) (b : Str) : decide ((Sum.inl a : Key) = Sum.inr b) = false := decide_eq_false (fun q => nomatch q)
theorem c0H (a : Str) (b : Int) : decide ((Sum.inr a : Key) = Sum.inl b) = false := decide_eq_false (fun q => nomatch q)
noncomputable def a0m (prog : Program) (w : World) : PySem.KeyKind prog w Key where
 is := a6s
 hash := keyH w
 inj := fun v a b ha hb => by
  rcases a0D ha with ⟨i, t, rfl, rfl⟩ | ⟨x, t, rfl, rfl⟩
  ·rcases a0D hb with ⟨j, u, rfl, e⟩ | ⟨y, u, rfl, e⟩
   ·injection e with e1 _; rw [e1]
   ·exact nomatch e
  ·rcases a0D hb with ⟨j, u, rfl, e⟩ | ⟨y, u, rfl, e⟩
   ·exact nomatch e
   ·injection e with e1 _; rw [e1]
 byValue := fun k v h => by
  rcases a0D h with ⟨i, t, rfl, rfl⟩ | ⟨x, t, rfl, rfl⟩ <;> rfl
 pyHash := fun hv h => by
  rcases a0D hv with ⟨i, t, rfl, rfl⟩ | ⟨x, t, rfl, rfl⟩
  ·exact wpAny_pyHash_int h
  ·exact wpAny_pyHash_str h
 eqBool := fun hu hv h => by
  rcases a0D hu with ⟨i, t, rfl, rfl⟩ | ⟨x, t, rfl, rfl⟩
  ·rcases a0D hv with ⟨j, u, rfl, rfl⟩ | ⟨y, u, rfl, rfl⟩
   ·rw [c0J] at h; exact wpAny_eqBool_int h
   ·rw [c0I] at h; exact SeqAt.EqAt.int_str i t y u _ _ _ _ h
  ·rcases a0D hv with ⟨j, u, rfl, rfl⟩ | ⟨y, u, rfl, rfl⟩
   ·rw [c0H] at h; exact SeqAt.EqAt.str_int x t j u _ _ _ _ h
   ·rw [c0G] at h; exact wpAny_eqBool_str h
 «strs» := fun k x t v h => by
  rcases a0D h with ⟨i, u, rfl, e⟩ | ⟨y, u, rfl, e⟩
  ·exact nomatch e
  ·injection e with e1 _
   subst e1
   cases v <;> rfl
theorem a4P (prog : Program) (w : World) (k : Key) (v : Value) : (a0m prog w).is k v = a6s k v := rfl
theorem b0n (prog : Program) (w : World) (i : Int) (t : Tok) : (a0m prog w).is (.inl i) (.int i t) = true := a8X i t
theorem b0m (prog : Program) (w : World) (x : Str) (t : Tok) : (a0m prog w).is (.inr x) (.str x t) = true := a8W x t
inductive V where
 | non | bl (b : Bool) | int (i : Int) | str (x : Str) | byt (b : Array UInt8) | flt (b : UInt64) | ref (a : Addr) | ty (n : String)
 deriving DecidableEq
noncomputable def RelV : V → Value → Prop
 | .non, u => u = Value.none
 | .bl b, u => u = Value.bool b
 | .int i, u => ∃ t, u = Value.int i t
 | .str x, u => ∃ t, u = Value.str x t
 | .byt b, u => ∃ t, u = Value.bytes b t
 | .flt b, u => ∃ t, u = Value.float b t
 | .ref a, u => u = Value.ref a
 | .ty n, u => u = Value.type n
noncomputable abbrev Vals : List V → List Value → Prop := Paired RelV
theorem Vals.length {xs : List V} {us : List Value} (r : Vals xs us) : xs.length = us.length := Paired.length r
theorem Vals.get : ∀ {xs : List V} {us : List Value} {i : Nat} {x : V}, Vals xs us → xs[i]? = some x → ∃ u, us[i]? = some u ∧ RelV x u
 | _, _, _, _, .nil, e => by simp at e
 | _, _, 0, _, .cons r _, e => by simp at e; subst e; exact ⟨_, rfl, r⟩
 | _, _, i + 1, x, .cons _ t, e => by
   obtain ⟨u, h1, h2⟩ := Vals.get (i := i) (x := x) t (by simpa using e)
   exact ⟨u, by simpa using h1, h2⟩
theorem Vals.set {x : V} {u : Value} (r : RelV x u) : ∀ {xs : List V} {us : List Value} (i : Nat), Vals xs us → Vals (xs.set i x) (us.set i u)
 | _, _, _, .nil => .nil
 | _, _, 0, .cons _ t => .cons r t
 | _, _, i + 1, .cons q t => .cons q (Vals.set r i t)
theorem Vals.append : ∀ {xs ys : List V} {us ws : List Value}, Vals xs us → Vals ys ws → Vals (xs ++ ys) (us ++ ws)
 | _, _, _, _, .nil, s => s
 | _, _, _, _, .cons r t, s => .cons r (Vals.append t s)
theorem Vals.take : ∀ {xs : List V} {us : List Value} (n : Nat), Vals xs us → Vals (xs.take n) (us.take n)
 | _, _, 0, _ => .nil
 | _, _, _ + 1, .nil => .nil
 | _, _, n + 1, .cons r t => .cons r (Vals.take n t)
theorem Vals.drop : ∀ {xs : List V} {us : List Value} (n : Nat), Vals xs us → Vals (xs.drop n) (us.drop n)
 | _, _, 0, r => r
 | _, _, _ + 1, .nil => .nil
 | _, _, n + 1, .cons _ t => Vals.drop n t
noncomputable def RelO : Option V → Option Value → Prop
 | some v, some u => RelV v u
 | none, none => True
 | _, _ => False
noncomputable def KV {κ : Type} : List (κ × V) → List (κ × Value) → Prop := Paired fun (p : κ × V) (q : κ × Value) => p.1 = q.1 ∧ RelV p.2 q.2
noncomputable def kV : Key → V
 | .inl i => .int i
 | .inr x => .str x
inductive HO where
 /-- a list -/
 | lst (xs : List V)
 /-- a tuple (never changes) -/
 | tup (xs : List V)
 /-- a dict whose keys are ints and texts; one whose keys are tuples of ints and texts (the empty one is both) -/
 | dK (kvs : List (Key × V)) | dT (kvs : List (List Key × V))
 /-- a set of ints: its members, its size -/
 | set (S : Int → Bool) (n : Nat)
 /-- an instance of the class at C, its dict at dx, its attributes -/
 | ins (C dx : Addr) (fs : List (Str × V))
 /-- the dict of the instance at x -/
 | own (x : Addr)
 /-- the dict of an exception -/
 | xd (fs : List (Str × V))
 /-- a bound method, f of x -/
 | met (f x : Addr)
 /-- a range object lo, lo + 1, .. below hi -/
 | rng (lo hi : Int)
 /-- a thing that is known to the object (the script; a dict while a loop walks it): read, never written while it is so -/
 | frz (o : Obj) (u : HO)
 /-- a code object's table -/
 | tbl (ps : Array Value)
 /-- any other thing, by what is true of its one object (a def of one's own: SetO a S n := HO.ext fun h => ..) -/
 | ext (φ : Heap → Prop)
noncomputable abbrev Hp := Addr → Option HO
noncomputable def a2B (h : Heap) (a : Addr) (items : Array Value) : Prop := ∃ o, h.get? a = some o ∧ o.cls = .type "tuple" ∧ o.dict = none ∧ ∃ n, o.data = .seq items n
theorem a2B.t {h : Heap} {a : Addr} {items : Array Value} (x : a2B h a items) : IsTup h a items := let ⟨o, e, c, _, n, d⟩ := x; ⟨o, e, c, n, d⟩
theorem a2B.lt {h : Heap} {a : Addr} {items : Array Value} (x : a2B h a items) : a < h.objs.size := x.t.lt
theorem a2B.new (h : Heap) (items : Array Value) : a2B (h.push { cls := .type "tuple", data := .seq items }) h.objs.size items := ⟨_, Heap.get?_push_size _ rfl, rfl, rfl, 0, rfl⟩
noncomputable def upd (H : Hp) (a : Addr) (o : HO) : Hp := fun b => if b = a then some o else H b
theorem a0A {H : Hp} {a : Addr} {o : HO} : upd H a o a = some o := by unfold upd; rw [if_pos rfl]
theorem a0p {H : Hp} {a b : Addr} {o : HO} (h : b ≠ a) : upd H a o b = H b := by unfold upd; rw [if_neg h]
theorem c1U {H : Hp} {a b : Addr} {o u : HO} (h : H a = some o) (h' : H b = some u) (d : o ≠ u) : a ≠ b := by
 intro e; subst e; rw [h] at h'; exact d (Option.some.inj h')
theorem a0k {H : Hp} {a b : Addr} {o : HO} (h : H a = some o) (h' : H b = none) : a ≠ b := by
 intro e; subst e; rw [h] at h'; cases h'
section
variable (P : Program) (w : World)
noncomputable def a1P (H : Hp) (h : Heap) (a : Addr) : HO → Prop
 | .lst xs => xs.length ≤ sizeLine ∧ ∃ (its : List Value) (n : Nat), Vals xs its ∧ h.get? a = some { cls := .type "list", data := .seq its.toArray n }
 | .tup xs => xs.length ≤ sizeLine ∧ ∃ its : List Value, Vals xs its ∧ a2B h a its.toArray
 | .dK kvs => kvs.length ≤ sizeLine ∧ (a == sysModules) = false ∧ ∃ vs, KV kvs vs ∧ h.DictOf (a0m P w) a vs
 | .dT kvs => kvs.length ≤ sizeLine ∧ (a == sysModules) = false ∧ ∃ xs : List (List Key × Addr × Value),
   Paired (fun (p : List Key × V) (q : List Key × Addr × Value) => p.1 = q.1 ∧ H q.2.1 = some (.tup (p.1.map kV)) ∧ RelV p.2 q.2.2) kvs xs ∧
   ∃ o es ep, h.get? a = some o ∧ o.ExactDict ∧ o.data = .dict es ep ∧ es.toList = xs.map (entryOfKey (tupleKind (a0m P w))) ∧ (xs.map (·.1)).Nodup
 | .set S n => h.SetOf (intKind P w) a S n
 | .ins C dx fs => H dx = some (.own a) ∧ fs.length ≤ 1000 ∧ dx ≠ a ∧ h.get? a = some (PySem.W.instObj C dx) ∧
   ∃ mA, h.Ns1 dx mA ∧ (∀ f, RelO (fs.lookup f) (mA f)) ∧ PySem.Within mA (fs.map (·.1))
 | .own _ => ∃ o, h.get? a = some o
 | .xd fs => ∃ mA, h.Ns1 a mA ∧ ∀ f, RelO (fs.lookup f) (mA f)
 | .rng lo hi => ∃ t u v, h.get? a = some { cls := .type "range", data := .fields #[.int lo t, .int hi u, .int 1 v] }
 | .frz o u => h.get? a = some o ∧ a1P H h a u
 | .tbl ps => h.get? a = some { cls := .none, data := .fields ps }
 | .met f x => h.get? a = some (PySem.W.methodObj (.ref f) (.ref x))
 | .ext φ => φ h ∧ (∃ o, h.get? a = some o) ∧ ∀ h1 h2 : Heap, φ h1 → (∀ o, h1.get? a = some o → h2.get? a = some o) → φ h2
noncomputable def HOk (H : Hp) (h : Heap) : Prop := ∀ a o, H a = some o → a1P P w H h a o
end
section
variable {P : Program} {w : World} {H H' : Hp} {h h' : Heap} {a : Addr} {o : HO}
theorem a1P.lt (x : a1P P w H h a o) : a < h.objs.size := by
 cases o with
 | lst xs => obtain ⟨_, _, _, _, e⟩ := x; exact Heap.lt_size e
 | tup xs => obtain ⟨_, _, _, p⟩ := x; exact p.lt
 | dK kvs => obtain ⟨_, _, _, _, o, _, _, e, _⟩ := x; exact Heap.lt_size e
 | dT kvs => obtain ⟨_, _, _, _, o, _, _, e, _⟩ := x; exact Heap.lt_size e
 | set S n => obtain ⟨o, _, _, _, e, _⟩ := x; exact Heap.lt_size e
 | ins C dx fs => obtain ⟨_, _, _, e, _⟩ := x; exact Heap.lt_size e
 | own y => obtain ⟨_, e⟩ := x; exact Heap.lt_size e
 | xd fs => obtain ⟨_, ⟨_, _, _, e, _⟩, _⟩ := x; exact Heap.lt_size e
 | rng lo hi => obtain ⟨_, _, _, e⟩ := x; exact Heap.lt_size e
 | frz ob u => obtain ⟨e, _⟩ := x; exact Heap.lt_size e
 | tbl ps => exact Heap.lt_size (show h.get? a = some _ from x)
 | met f y => exact Heap.lt_size (show h.get? a = some _ from x)
 | ext φ => obtain ⟨_, ⟨_, e⟩, _⟩ := x; exact Heap.lt_size e
theorem Paired.mapP {α β : Type} {F G : α → β → Prop} : ∀ {l₁ : List α} {l₂ : List β}, Paired F l₁ l₂ → (∀ a b, F a b → G a b) → Paired G l₁ l₂
 | _, _, .nil, _ => .nil
 | _, _, .cons r t, f => .cons (f _ _ r) (Paired.mapP t f)
theorem a1P.stay (x : a1P P w H h a o) (k : ∀ b u, (b = a ∨ H b = some (.own a)) → h.get? b = some u → h'.get? b = some u)
  (ho : ∀ b, H b = some (.own a) → H' b = some (.own a)) (ht : ∀ b xs, H b = some (.tup xs) → H' b = some (.tup xs)) : a1P P w H' h' a o := by
 induction o with
 | lst xs => obtain ⟨z, its, n, r, e⟩ := x; exact ⟨z, its, n, r, k _ _ (.inl rfl) e⟩
 | tup xs => obtain ⟨z, its, r, ob, e, c⟩ := x; exact ⟨z, its, r, ob, k _ _ (.inl rfl) e, c⟩
 | dK kvs => obtain ⟨z, y, vs, r, ob, es, ep, e, c⟩ := x; exact ⟨z, y, vs, r, ob, es, ep, k _ _ (.inl rfl) e, c⟩
 | dT kvs =>
   obtain ⟨z, y, xs, r, ob, es, ep, e, c⟩ := x
   exact ⟨z, y, xs, Paired.mapP r fun p q z => ⟨z.1, ht _ _ z.2.1, z.2.2⟩, ob, es, ep, k _ _ (.inl rfl) e, c⟩
 | set S n => obtain ⟨ob, es, ep, t, e, c⟩ := x; exact ⟨ob, es, ep, t, k _ _ (.inl rfl) e, c⟩
 | ins C dx fs =>
   obtain ⟨d, z, ne, e, mA, ⟨od, es, ep, e2, c⟩, r⟩ := x
   exact ⟨ho _ d, z, ne, k _ _ (.inl rfl) e, mA, ⟨od, es, ep, k _ _ (.inr d) e2, c⟩, r⟩
 | own y => obtain ⟨ob, e⟩ := x; exact ⟨ob, k _ _ (.inl rfl) e⟩
 | xd fs => obtain ⟨mA, ⟨od, es, ep, e, c⟩, r⟩ := x; exact ⟨mA, ⟨od, es, ep, k _ _ (.inl rfl) e, c⟩, r⟩
 | rng lo hi => obtain ⟨t, u, v, e⟩ := x; exact ⟨t, u, v, k _ _ (.inl rfl) e⟩
 | frz ob u ih => obtain ⟨e, q⟩ := x; exact ⟨k _ _ (.inl rfl) e, ih q⟩
 | tbl ps =>
   have e : h.get? a = some { cls := .none, data := .fields ps } := x
   show h'.get? a = some { cls := .none, data := .fields ps }
   exact k a _ (.inl rfl) e
 | met f y =>
   have e : h.get? a = some (PySem.W.methodObj (.ref f) (.ref y)) := x
   show h'.get? a = some (PySem.W.methodObj (.ref f) (.ref y))
   exact k a _ (.inl rfl) e
 | ext φ => obtain ⟨p, ⟨o, e⟩, st⟩ := x; exact ⟨st _ _ p fun o q => k _ _ (.inl rfl) q, ⟨o, k _ _ (.inl rfl) e⟩, st⟩
theorem HOk.lt (x : HOk P w H h) (e : H a = some o) : a < h.objs.size := (x a o e).lt
theorem HOk.fresh (x : HOk P w H h) (e : h.objs.size ≤ a) : H a = none := by
 cases q : H a with
 | none => rfl
 | some u => exact absurd (Nat.lt_of_lt_of_le (x.lt q) e) (Nat.lt_irrefl _)
theorem HOk.kept (x : HOk P w H h) (k : ∀ b u, h.get? b = some u → h'.get? b = some u) : HOk P w H h' := fun a o e =>
 (x a o e).stay (fun b u _ q => k b u q) (fun _ q => q) fun _ _ q => q
theorem HOk.laid (x : HOk P w H h) (k : ∀ b u, h.get? b = some u → h'.get? b = some u) (hp : h.objs.size ≤ a) (new : a1P P w (upd H a o) h' a o) : HOk P w (upd H a o) h' := fun b u e => by
 have hn := x.fresh hp
 by_cases hb : b = a
 ·subst hb; rw [a0A] at e; cases e; exact new
 ·rw [a0p hb] at e
  exact (x b u e).stay (fun c v _ q => k c v q) (fun c q => by rw [a0p (a0k q hn)]; exact q) fun c xs q => by rw [a0p (a0k q hn)]; exact q
end
noncomputable def Rd (H : Hp) (a : Addr) (u : HO) : Prop := H a = some u ∨ ∃ o, H a = some (.frz o u)
theorem Rd.of {H : Hp} {a : Addr} {u : HO} (h : H a = some u) : Rd H a u := .inl h
theorem Rd.ok {P : Program} {w : World} {H : Hp} {h : Heap} {a : Addr} {u : HO} (r : Rd H a u) (x : HOk P w H h) : a1P P w H h a u := by
 rcases r with r | ⟨o, r⟩
 ·exact x a u r
 ·obtain ⟨_, q⟩ := x a _ r
  exact q
noncomputable def Mut : Option HO → Prop
 | some (.lst _) => True
 | some (.dK _) => True
 | some (.dT _) => True
 | some (.set _ _) => True
 | some (.ins _ _ _) => True
 | some (.ext _) => True
 | _ => False
section
variable {P : Program} {w : World} {H : Hp} {h h' : Heap} {x e : Addr} {o' : HO}
theorem HOk.write (ok : HOk P w H h) (mu : Mut (H x)) (he : e = x ∨ H e = some (.own x)) (k : ∀ b u, b ≠ e → h.get? b = some u → h'.get? b = some u) (heo : ∃ u, h'.get? e = some u)
  (new : a1P P w (upd H x o') h' x o') : HOk P w (upd H x o') h' := fun b u q => by
 have nown : ∀ c y, H c = some (.own y) → c ≠ x := fun c y r z => by subst z; rw [r] at mu; exact mu
 have ntup : ∀ c xs, H c = some (.tup xs) → c ≠ x := fun c xs r z => by subst z; rw [r] at mu; exact mu
 by_cases hb : b = x
 ·subst hb; rw [a0A] at q; cases q; exact new
 ·rw [a0p hb] at q
  by_cases hbe : b = e
  ·have q' : H b = some (.own x) := by
    rcases he with z | z
    ·exact absurd (hbe.trans z) hb
    ·rw [hbe]; exact z
   rw [q] at q'; cases q'
   obtain ⟨v, hv⟩ := heo
   exact ⟨v, by rw [hbe]; exact hv⟩
  ·refine (ok b u q).stay (fun c v hc r => k c v ?_ r) (fun c r => by rw [a0p (nown c b r)]; exact r) fun c xs r => by rw [a0p (ntup c xs r)]; exact r
   rcases hc with rfl | hc
   ·exact hbe
   ·rintro rfl
    rcases he with z | z
    ·exact nown c b hc z
    ·rw [hc] at z; cases z; exact hb rfl
end
structure Un (fs ex : List Addr) (H H' : Hp) (h h' : Heap) : Prop where
 keep : ∀ b o, h.get? b = some o → H b = none → b ∉ fs → b ∉ ex → h'.get? b = some o
 slot : ∀ b o, h.get? b = some o → H b = none → b ∈ fs → b ∉ ex → ∃ sl, h'.get? b = some { o with slots := sl }
 free : ∀ b o, h.get? b = some o → H b = none → b ∉ ex → H' b = none
 there : ∀ b o, h.get? b = some o → b ∉ ex → ∃ o', h'.get? b = some o'
 tups : ∀ b xs, H b = some (.tup xs) → H' b = some (.tup xs)
 frzs : ∀ b o u, H b = some (.frz o u) → H' b = some (.frz o u)
 tbls : ∀ b ps, H b = some (.tbl ps) → ∃ more, H' b = some (.tbl (ps ++ more))
section
variable {fs fs' ex ex' : List Addr} {H H1 H2 : Hp} {h h1 h2 h' : Heap} {a x e : Addr} {o : HO}
theorem Un.any (u : Un fs ex H H1 h h1) {b : Addr} {ob : Obj} (q : h.get? b = some ob) (n : H b = none) (hx : b ∉ ex) : ∃ sl, h1.get? b = some { ob with slots := sl } := by
 by_cases hb : b ∈ fs
 ·exact u.slot b ob q n hb hx
 ·exact ⟨ob.slots, u.keep b ob q n hb hx⟩
theorem Un.kept (k : ∀ b u, h.get? b = some u → h'.get? b = some u) : Un fs ex H H h h' :=
 ⟨fun b ob q _ _ _ => k b ob q, fun b ob q _ _ _ => ⟨ob.slots, k b ob q⟩, fun _ _ _ n _ => n, fun b ob q _ => ⟨ob, k b ob q⟩, fun _ _ q => q, fun _ _ _ q => q, fun _ ps q => ⟨#[], by rw [q]; simp⟩⟩
theorem Un.refl : Un fs ex H H h h := Un.kept fun _ _ q => q
theorem Un.laid (k : ∀ b u, h.get? b = some u → h'.get? b = some u) (hp : h.objs.size ≤ a) (hn : H a = none) : Un fs ex H (upd H a o) h h' where
 keep := fun b u q _ _ _ => k b u q
 slot := fun b u q _ _ _ => ⟨u.slots, k b u q⟩
 free := fun b u q n _ => by rw [a0p (Nat.ne_of_lt (Nat.lt_of_lt_of_le (Heap.lt_size q) hp))]; exact n
 there := fun b u q _ => ⟨u, k b u q⟩
 tups := fun b xs q => by rw [a0p (a0k q hn)]; exact q
 frzs := fun b u xs q => by rw [a0p (a0k q hn)]; exact q
 tbls := fun b ps q => ⟨#[], by rw [a0p (a0k q hn), q]; simp⟩
theorem Un.write (mu : Mut (H x)) (he : e = x ∨ H e = some (.own x)) (k : ∀ b u, b ≠ e → h.get? b = some u → h'.get? b = some u) (heo : ∃ u, h'.get? e = some u) : Un fs ex H (upd H x o) h h' := by
 have hx : ∀ b, H b = none → b ≠ x := fun b n z => by subst z; rw [n] at mu; exact mu
 have hb : ∀ b, H b = none → b ≠ e := fun b n z => by
  subst z
  rcases he with r | r
  ·exact hx b n r
  ·rw [n] at r; cases r
 have hm : ∀ b u, H b = some u → ¬ Mut (some u) → b ≠ x := fun b u q nm z => by subst z; rw [q] at mu; exact nm mu
 refine ⟨fun b u q n _ _ => k b u (hb b n) q, fun b u q n _ _ => ⟨u.slots, k b u (hb b n) q⟩, fun b u q n _ => by rw [a0p (hx b n)]; exact n, fun b u q _ => ?_,
  fun b xs q => by rw [a0p (hm b _ q fun z => z)]; exact q, fun b u xs q => by rw [a0p (hm b _ q fun z => z)]; exact q, fun b ps q => ⟨#[], by rw [a0p (hm b _ q fun z => z), q]; simp⟩⟩
 by_cases hbe : b = e
 ·subst hbe; exact heo
 ·exact ⟨u, k b u hbe q⟩
end
noncomputable def trk (h : Heap) (H : Hp) : List Addr := (List.range h.objs.size).filter fun a => (H a).isSome
noncomputable def hidT (h : Heap) (H : Hp) : Heap := PySem.W.hideAll h (trk h H)
theorem b4d (h : Heap) (H : Hp) : (hidT h H).objs.size = h.objs.size := PySem.W.hideAll_size _ _
theorem b6f {h : Heap} {H : Hp} {b : Addr} {o : Obj} (e : h.get? b = some o) (n : H b = none) : (hidT h H).get? b = some o :=
 PySem.W.hideAll_get _ e fun hm => by
  have q : (H b).isSome = true := (List.mem_filter.mp hm).2
  rw [n] at q; simp at q
theorem b8v {h : Heap} {H : Hp} {b : Addr} {o : Obj} (e : (hidT h H).get? b = some o) : h.get? b = some o ∧ H b = none := by
 have e' : h.get? b = some o := PySem.W.of_hideAll (trk h H) e
 refine ⟨e', ?_⟩
 cases q : H b with
 | none => rfl
 | some x =>
   have hm : b ∈ trk h H := List.mem_filter.mpr ⟨List.mem_range.mpr (Heap.lt_size e'), by simp [q]⟩
   have z : (hidT h H).get? b = none := PySem.W.hideAll_none (trk h H) hm
   rw [z] at e; cases e
structure Mod (K : PySem.W.Frag) (mg : Str → Option Value) (base : Heap) : Prop where
 kin : K.In base
 glob : base.Ns mainGlobals mg
 blt : ∃ mb, base.Ns builtinsNs mb ∧ ∀ x : Str, x ≠ "__name__" → mb x = bootBuiltins x
 nolimit : base.NoLimit
structure Cx where
 prog : Program
 w : World
 K : PySem.W.Frag
 mg : Str → Option Value
 base : Heap
 A : Around
 N : List Str
 s₀ : Shared
 H₀ : Hp
 env : Env
 outer : List Env
 stack : List Env
 ex : List Addr
 fn : Str → Bool
 calm : Bool
 pn : List (Addr × Obj)
 xe : Value → Shared → Prop
noncomputable def frs (l : List Env) : List Addr := l.filterMap (·.frame)
noncomputable abbrev Cx.fs (X : Cx) : List Addr := frs X.outer
noncomputable def Vis (sc : Scope) (x : Str) : Prop := sc.names.lookup x = some .local ∨ sc.names.lookup x = some .cell ∨ sc.names.lookup x = some .free
noncomputable def Loc (sc : Scope) (x : Str) : Prop := sc.names.lookup x = some .local ∨ sc.names.lookup x = some .cell
noncomputable def Look (env : Env) (h : Heap) (m : Str → Option Value) (x : Str) (u : Value) : Prop :=
 (env.kindOf x = some .local ∧ m x = some u) ∨ ((env.kindOf x = some .cell ∨ env.kindOf x = some .free) ∧ ∃ c, env.cells.lookup x = some c ∧ h.IsCell c (some u))
structure Cx.Ok (X : Cx) : Prop where
 mod : Mod X.K X.mg X.base
 kind : X.env.scope.kind = .function
 glob : X.env.globals = mainGlobals
 blt : X.env.builtins = builtinsNs
 above : X.s₀.heap.objs.size ≤ X.env.locals
 inj : ∀ x y c, X.env.cells.lookup x = some c → X.env.cells.lookup y = some c → x = y
 has : ∀ x, (X.env.kindOf x = some .cell ∨ X.env.kindOf x = some .free) → ∃ c, X.env.cells.lookup x = some c
 cab : ∀ x c, X.fn x = true → X.env.cells.lookup x = some c → X.s₀.heap.objs.size ≤ c
 hd : X.calm = true → X.A.handled = none
 frames : X.A.frames = some X.stack
 stk : X.stack = X.outer ∨ (X.stack = X.env :: X.outer ∧ X.env.frame = some X.env.locals)
 exf : ∀ b ∈ X.ex, b ≠ X.env.locals ∧ ∀ x c, X.env.cells.lookup x = some c → c ≠ b
 bs : ∀ b o, X.base.get? b = some o → X.s₀.heap.get? b = some o ∧ X.H₀ b = none
 bsz : X.base.objs.size ≤ X.s₀.heap.objs.size
 noex : ∀ b o, X.base.get? b = some o → b ∉ X.ex
 exfs : ∀ b ∈ X.ex, b ∉ X.fs
 funs : X.s₀.heap.FunFrames X.base X.outer
 frf : ∀ b ∈ X.fs, X.H₀ b = none
structure Inv (X : Cx) (pins : List (Addr × Obj)) (σ : List (Option V)) (H : Hp) (s : Shared) : Prop where
 ok : X.Ok
 os : s.os = X.s₀.os
 bare : AllBare s.gens
 base : Un X.fs X.ex X.H₀ H X.s₀.heap s.heap
 loc : ∃ m, s.heap.Ns X.env.locals m ∧ ∀ (i : Nat) (x : Str) (v : V), X.N[i]? = some x → σ[i]? = some (some v) → Vis X.env.scope x → ∃ u, RelV v u ∧ Look X.env s.heap m x u
 cell : ∀ x c, X.env.cells.lookup x = some c → ∃ v, s.heap.IsCell c v
 free : H X.env.locals = none
 freeC : ∀ x c, X.env.cells.lookup x = some c → H c = none
 pin : ∀ p ∈ X.pn ++ pins, s.heap.get? p.1 = some p.2 ∧ H p.1 = none ∧ p.1 ≠ X.env.locals ∧ p.1 ∉ X.fs ∧ ∀ v, p.2.data ≠ .cell v
 hok : HOk X.prog X.w H s.heap
 len : σ.length = X.N.length
section
variable {X : Cx} {pins : List (Addr × Obj)} {σ : List (Option V)} {H H' : Hp} {s : Shared} {h' : Heap}
theorem Cx.Ok.nofr (ok : X.Ok) {b : Addr} {o : Obj} (e : X.base.get? b = some o) : b ∉ X.fs := fun hb => by
 have := (ok.funs.mem hb).1
 rw [e] at this; cases this
theorem Inv.bs (I : Inv X pins σ H s) : ∀ b o, X.base.get? b = some o → s.heap.get? b = some o ∧ H b = none := fun b o e =>
 ⟨I.base.keep b o (I.ok.bs b o e).1 (I.ok.bs b o e).2 (I.ok.nofr e) (I.ok.noex b o e), I.base.free b o (I.ok.bs b o e).1 (I.ok.bs b o e).2 (I.ok.noex b o e)⟩
theorem Inv.bk (I : Inv X pins σ H s) : ∀ b o, X.base.get? b = some o → s.heap.get? b = some o := fun b o e => (I.bs b o e).1
theorem Inv.mod (I : Inv X pins σ H s) : Mod X.K X.mg X.base := I.ok.mod
theorem Inv.kIn (I : Inv X pins σ H s) : X.K.In s.heap := I.ok.mod.kin.keeps I.bk
theorem Inv.lt (I : Inv X pins σ H s) : X.env.locals < s.heap.objs.size := let ⟨_, hn, _⟩ := I.loc; hn.lt
theorem Inv.sz (I : Inv X pins σ H s) : X.s₀.heap.objs.size ≤ s.heap.objs.size := Nat.le_trans I.ok.above (Nat.le_of_lt I.lt)
theorem Inv.nofs (I : Inv X pins σ H s) {a : Addr} (h : s.heap.objs.size ≤ a) : a ∉ X.fs := fun hb => by
 obtain ⟨_, o, ho, _⟩ := I.ok.funs.mem hb
 exact absurd (Nat.lt_of_lt_of_le (Heap.lt_size ho) (Nat.le_trans I.sz h)) (Nat.lt_irrefl _)
theorem Inv.cne (I : Inv X pins σ H s) : ∀ x c, X.env.cells.lookup x = some c → c ≠ X.env.locals := fun x c e z => by
 obtain ⟨v, o, ho, hd⟩ := I.cell x c e
 obtain ⟨m, ⟨o', es, ep, ho', hd', _⟩, _⟩ := I.loc
 rw [z, ho'] at ho; cases ho; rw [hd'] at hd; cases hd
theorem Inv.funs (I : Inv X pins σ H s) : s.heap.FunFrames X.base X.outer := by
 have all : ∀ (l : List Env), (∀ b ∈ frs l, b ∈ X.fs) → X.s₀.heap.FunFrames X.base l → s.heap.FunFrames X.base l := by
  intro l
  induction l with
  | nil => intro _ _; trivial
  | cons env r ih =>
    intro hs hl
    obtain ⟨hk, ⟨L, o, hf, hn, ho, hd⟩, hr⟩ := hl
    have hL : L ∈ X.fs := hs L (by unfold frs; rw [List.filterMap_cons, hf]; exact List.mem_cons_self)
    obtain ⟨sl, e⟩ := I.base.slot L o ho (I.ok.frf L hL) hL fun z => I.ok.exfs L z hL
    exact ⟨hk, ⟨L, _, hf, hn, e, hd⟩, ih (fun b hb => hs b (by unfold frs; rw [List.filterMap_cons, hf]; exact List.mem_cons_of_mem _ hb)) hr⟩
 exact all X.outer (fun _ hb => hb) I.ok.funs
theorem Inv.stack (I : Inv X pins σ H s) : s.heap.FunFrames X.base X.stack := by
 rcases I.ok.stk with e | ⟨e, hf⟩
 ·rw [e]; exact I.funs
 ·rw [e]
  obtain ⟨m, hn, _⟩ := I.loc
  refine .cons (by rw [I.ok.kind]; decide) hf hn ?_ I.funs
  exact Heap.get?_none_of_le (Nat.le_trans I.ok.bsz I.ok.above)
theorem Inv.stkSub (I : Inv X pins σ H s) : ∀ b ∈ frs X.stack, b ∈ X.env.locals :: X.fs := fun b hb => by
 rcases I.ok.stk with e | ⟨e, hf⟩
 ·rw [e] at hb; exact List.mem_cons_of_mem _ hb
 ·rw [e] at hb
  unfold frs at hb
  rw [List.filterMap_cons, hf] at hb
  exact hb
theorem Inv.stkFree (I : Inv X pins σ H s) : ∀ b ∈ frs X.stack, H b = none := fun b hb => by
 rcases List.mem_cons.mp (I.stkSub b hb) with e | hb
 ·rw [e]; exact I.free
 ·obtain ⟨_, o, ho, _⟩ := I.ok.funs.mem hb
  exact I.base.free b o ho (I.ok.frf b hb) fun z => I.ok.exfs b z hb
theorem Inv.step {g' : Array GenState} {t' : Nat} {d' : Drawn} {ch : List Addr} (I : Inv X pins σ H s)
  (hch : ∀ b ∈ ch, (b ∈ X.ex ∨ X.s₀.heap.objs.size ≤ b) ∧ b ≠ X.env.locals ∧ (∀ x c, X.env.cells.lookup x = some c → c ≠ b) ∧ ∀ p ∈ X.pn ++ pins, p.1 ≠ b)
  (keep : ∀ b o, b ≠ X.env.locals → b ∉ X.fs → b ∉ ch → s.heap.get? b = some o → H b = none → h'.get? b = some o)
  (slot : ∀ b o, b ≠ X.env.locals → b ∈ X.fs → b ∉ ch → s.heap.get? b = some o → H b = none → ∃ sl, h'.get? b = some { o with slots := sl }) (free : ∀ b o, b ∉ ch → s.heap.get? b = some o → H b = none → H' b = none)
  (there : ∀ b o, b ∉ ch → s.heap.get? b = some o → ∃ o', h'.get? b = some o')
  (tups : ∀ b xs, H b = some (.tup xs) → H' b = some (.tup xs)) (frzs : ∀ b o u, H b = some (.frz o u) → H' b = some (.frz o u)) (tbls : ∀ b ps, H b = some (.tbl ps) → ∃ more, H' b = some (.tbl (ps ++ more)))
  (ns : ∀ m, s.heap.Ns X.env.locals m → h'.Ns X.env.locals m) (hok : HOk X.prog X.w H' h') (hg : AllBare g') :
  Inv X pins σ H' { s with heap := h', gens := g', drawn := d', toks := t' } := by
 have neL : ∀ b o, X.s₀.heap.get? b = some o → b ≠ X.env.locals := fun b o e => Nat.ne_of_lt (Nat.lt_of_lt_of_le (Heap.lt_size e) I.ok.above)
 have neC : ∀ b o, X.s₀.heap.get? b = some o → b ∉ X.ex → b ∉ ch := fun b o e hx hb => by
  rcases (hch b hb).1 with z | z
  ·exact hx z
  ·exact absurd (Nat.lt_of_lt_of_le (Heap.lt_size e) z) (Nat.lt_irrefl _)
 have cellK : ∀ x c, X.env.cells.lookup x = some c → ∀ v, s.heap.IsCell c v → h'.IsCell c v := fun x c e v ⟨o, ho, hd⟩ => by
  have nch : c ∉ ch := fun z => (hch c z).2.2.1 x c e rfl
  by_cases hc : c ∈ X.fs
  ·obtain ⟨sl, q⟩ := slot c o (I.cne x c e) hc nch ho (I.freeC x c e)
   exact ⟨_, q, hd⟩
  ·exact ⟨o, keep c o (I.cne x c e) hc nch ho (I.freeC x c e), hd⟩
 refine ⟨I.ok, I.os, hg, ⟨fun b o e n hb hx => ?_, fun b o e n hb hx => ?_, fun b o e n hx => ?_, fun b o e hx => ?_, fun b xs e => tups b xs (I.base.tups b xs e), fun b o xs e => frzs b o xs (I.base.frzs b o xs e), fun b ps e => ?_⟩, ?_, fun x c e => ?_, ?_, fun x c e => ?_, fun p hp => ?_, hok, I.len⟩
 ·exact keep b o (neL b o e) hb (neC b o e hx) (I.base.keep b o e n hb hx) (I.base.free b o e n hx)
 ·obtain ⟨sl, e1⟩ := I.base.slot b o e n hb hx
  obtain ⟨sl', e2⟩ := slot b _ (neL b o e) hb (neC b o e hx) e1 (I.base.free b o e n hx)
  exact ⟨sl', e2⟩
 ·obtain ⟨o', e1⟩ := I.base.there b o e hx
  exact free b o' (neC b o e hx) e1 (I.base.free b o e n hx)
 ·obtain ⟨o', e1⟩ := I.base.there b o e hx
  exact there b o' (neC b o e hx) e1
 ·obtain ⟨m1, e1⟩ := I.base.tbls b ps e
  obtain ⟨m2, e2⟩ := tbls b _ e1
  exact ⟨m1 ++ m2, by rw [e2, Array.append_assoc]⟩
 ·obtain ⟨m, hn, hl⟩ := I.loc
  refine ⟨m, ns m hn, fun i x v e1 e2 e3 => ?_⟩
  obtain ⟨u, r, l⟩ := hl i x v e1 e2 e3
  refine ⟨u, r, ?_⟩
  rcases l with l | ⟨k, c, e, z⟩
  ·exact .inl l
  ·exact .inr ⟨k, c, e, cellK x c e _ z⟩
 ·obtain ⟨v, z⟩ := I.cell x c e
  exact ⟨v, cellK x c e v z⟩
 ·obtain ⟨m, ⟨o, _, _, ho, _⟩, _⟩ := I.loc
  exact free _ o (fun z => (hch _ z).2.1 rfl) ho I.free
 ·obtain ⟨v, o, ho, hd⟩ := I.cell x c e
  exact free c o (fun z => (hch c z).2.2.1 x c e rfl) ho (I.freeC x c e)
 ·obtain ⟨e, n, ne, nf, d⟩ := I.pin p hp
  have nch : p.1 ∉ ch := fun z => (hch p.1 z).2.2.2 p hp rfl
  exact ⟨keep p.1 p.2 ne nf nch e n, free p.1 p.2 nch e n, ne, nf, d⟩
theorem Inv.un {t' : Nat} (I : Inv X pins σ H s) (u : Un X.fs [] H H' s.heap h') (hok : HOk X.prog X.w H' h') : Inv X pins σ H' { s with heap := h', toks := t' } := by
 obtain ⟨m, ⟨o, es, ep, ho, r⟩, _⟩ := id I.loc
 obtain ⟨sl, hL⟩ := u.any ho I.free (by simp)
 exact I.step (g' := s.gens) (d' := s.drawn) (ch := []) (fun _ z => nomatch z) (fun b o _ hb _ e n => u.keep b o e n hb (by simp)) (fun b o _ hb _ e n => u.slot b o e n hb (by simp)) (fun b o _ e n => u.free b o e n (by simp)) (fun b o _ e => u.there b o e (by simp)) u.tups u.frzs u.tbls (fun m' hm => by
  obtain ⟨o', es', ep', ho', r'⟩ := hm
  rw [ho] at ho'; cases ho'
  exact ⟨_, es', ep', hL, r'⟩) hok I.bare
theorem Inv.call {g' : Array GenState} {t' : Nat} {d' : Drawn} {ch : List Addr} (I : Inv X pins σ H s) (u : Un (frs X.stack) ch H H' s.heap h') (hok : HOk X.prog X.w H' h') (hg : AllBare g')
  (hch : ∀ b ∈ ch, (b ∈ X.ex ∨ X.s₀.heap.objs.size ≤ b) ∧ b ≠ X.env.locals ∧ (∀ x c, X.env.cells.lookup x = some c → c ≠ b) ∧ ∀ p ∈ X.pn ++ pins, p.1 ≠ b) :
  Inv X pins σ H' { s with heap := h', gens := g', drawn := d', toks := t' } := by
 obtain ⟨m, ⟨o, es, ep, ho, r⟩, _⟩ := id I.loc
 obtain ⟨sl, hL⟩ := u.any ho I.free fun z => (hch _ z).2.1 rfl
 exact I.step (ch := ch) hch (fun b o hL hb hc e n => u.keep b o e n (fun z => (List.mem_cons.mp (I.stkSub b z)).elim hL hb) hc) (fun b o _ _ hc e n => u.any e n hc) (fun b o hc e n => u.free b o e n hc) (fun b o hc e => u.there b o e hc) u.tups u.frzs u.tbls (fun m' hm => by
  obtain ⟨o', es', ep', ho', r'⟩ := hm
  rw [ho] at ho'; cases ho'
  exact ⟨_, es', ep', hL, r'⟩) hok hg
theorem Inv.turned {t' : Nat} {it : Addr} (I : Inv X pins σ H s) (k : ∀ b o, b ≠ it → s.heap.get? b = some o → h'.get? b = some o) (hn : H it = none) (hL : it ≠ X.env.locals)
  (h1 : it ∈ X.ex ∨ X.s₀.heap.objs.size ≤ it) (h2 : ∀ x c, X.env.cells.lookup x = some c → c ≠ it) (h3 : ∀ p ∈ X.pn ++ pins, p.1 ≠ it) : Inv X pins σ H { s with heap := h', toks := t' } := by
 have nit : ∀ b u, H b = some u → b ≠ it := fun b u e z => by rw [z, hn] at e; cases e
 refine I.step (g' := s.gens) (d' := s.drawn) (ch := [it]) (fun b hb => ?_) (fun b o _ _ hc e _ => k b o (fun z => hc (by simp [z])) e) (fun b o _ _ hc e _ => ⟨o.slots, k b o (fun z => hc (by simp [z])) e⟩) (fun _ _ _ _ n => n)
  (fun b o hc e => ⟨o, k b o (fun z => hc (by simp [z])) e⟩) (fun _ _ e => e) (fun _ _ _ e => e) (fun b ps e => ⟨#[], by rw [e]; simp⟩) (fun m hm => ?_) (fun b u e => ?_) I.bare
 ·have e : b = it := by simpa using hb
  subst e
  exact ⟨h1, hL, h2, h3⟩
 ·obtain ⟨o, es, ep, ho, r⟩ := hm
  exact ⟨o, es, ep, k _ o (Ne.symm hL) ho, r⟩
 ·refine (I.hok b u e).stay (fun c v hc q => k c v ?_ q) (fun _ q => q) fun _ _ q => q
  rcases hc with z | z
  ·rw [z]; exact nit b u e
  ·exact nit c _ z
theorem Inv.tok (I : Inv X pins σ H s) (t : Nat) : Inv X pins σ H { s with toks := t } := I.un (h' := s.heap) (t' := t) Un.refl I.hok
theorem Inv.kept {t' : Nat} (I : Inv X pins σ H s) (k : ∀ b u, s.heap.get? b = some u → h'.get? b = some u) : Inv X pins σ H { s with heap := h', toks := t' } := I.un (Un.kept k) (I.hok.kept k)
theorem Inv.laid {a : Addr} {o : HO} {t' : Nat} (I : Inv X pins σ H s) (k : ∀ b u, s.heap.get? b = some u → h'.get? b = some u) (hp : s.heap.objs.size ≤ a) (new : a1P X.prog X.w (upd H a o) h' a o) :
  Inv X pins σ (upd H a o) { s with heap := h', toks := t' } := I.un (Un.laid k hp (I.hok.fresh hp)) (I.hok.laid k hp new)
theorem Inv.write {x e : Addr} {o : HO} {t' : Nat} (I : Inv X pins σ H s) (mu : Mut (H x)) (he : e = x ∨ H e = some (.own x)) (k : ∀ b u, b ≠ e → s.heap.get? b = some u → h'.get? b = some u) (heo : ∃ u, h'.get? e = some u)
  (new : a1P X.prog X.w (upd H x o) h' x o) : Inv X pins σ (upd H x o) { s with heap := h', toks := t' } := I.un (Un.write mu he k heo) (I.hok.write mu he k heo new)
theorem Inv.weak {σ' : List (Option V)} (I : Inv X pins σ H s) (hl : σ'.length = σ.length) (w : ∀ (i : Nat) v, σ'[i]? = some (some v) → σ[i]? = some (some v)) : Inv X pins σ' H s :=
 ⟨I.ok, I.os, I.bare, I.base, let ⟨m, hn, hl'⟩ := I.loc; ⟨m, hn, fun i x v e1 e2 e3 => hl' i x v e1 (w i v e2) e3⟩, I.cell, I.free, I.freeC, I.pin, I.hok, hl.trans I.len⟩
theorem Inv.pins_of {pins' : List (Addr × Obj)} (I : Inv X pins σ H s) (h : ∀ p ∈ pins', s.heap.get? p.1 = some p.2 ∧ H p.1 = none ∧ p.1 ≠ X.env.locals ∧ p.1 ∉ X.fs ∧ ∀ v, p.2.data ≠ .cell v) : Inv X pins' σ H s :=
 ⟨I.ok, I.os, I.bare, I.base, I.loc, I.cell, I.free, I.freeC, fun p hp => (List.mem_append.mp hp).elim (fun z => I.pin p (List.mem_append_left _ z)) (h p), I.hok, I.len⟩
theorem b1l {N : List Str} (hN : N.Nodup) {i j : Nat} {x : Str} (a : N[i]? = some x) (b : N[j]? = some x) : i = j := by
 obtain ⟨h1, e1⟩ := List.getElem?_eq_some_iff.mp a
 obtain ⟨h2, e2⟩ := List.getElem?_eq_some_iff.mp b
 exact (List.getElem_inj hN).mp (e1.trans e2.symm)
theorem a8u {M : Model} {A : Around} {E : Value → Shared → Prop} {i : Nat} {x : Str} {v : V} {u : Value} {Q : Unit → Shared → Prop} (I : Inv X pins σ H s) (hN : X.N.Nodup) (hi : X.N[i]? = some x) (hx : Loc X.env.scope x) (r : RelV v u)
  (h : ∀ s', Inv X pins (σ.set i (some v)) H s' → (∃ a, Heap.SameBut a s.heap s'.heap ∧ (a = X.env.locals ∨ X.env.cells.lookup x = some a)) → Q () s') (hf : X.fn x = true ∨ X.env.scope.names.lookup x = some .local := by first | exact .inl rfl | exact .inr rfl | assumption) : wpAny M A (storeName X.env x u) Q E s := by
 obtain ⟨m, hn, hl⟩ := id I.loc
 have hcls : (X.env.scope.kind == .class || (X.env.scope.kind == .module && X.env.locals != X.env.globals)) = false := by rw [I.ok.kind]; rfl
 have hiσ : i < σ.length := by rw [I.len]; exact (List.getElem?_eq_some_iff.mp hi).1
 have cne := I.cne
 have tracked : ∀ {a : Addr} {h' : Heap}, (∃ o, s.heap.get? a = some o ∧ H a = none) → Heap.SameBut a s.heap h' → HOk X.prog X.w H h' := fun {a h'} ha hs b ob e => by
  obtain ⟨_, _, hfree⟩ := ha
  refine (I.hok b ob e).stay (fun c w' hc q => (hs.2 c ?_).trans q) (fun _ q => q) fun _ _ q => q
  rintro rfl
  rcases hc with rfl | hc
  ·rw [hfree] at e; cases e
  ·rw [hfree] at hc; cases hc
 rcases hx with hk | hk
 ·refine wpAny_storeName_local hk hn (fun h' hn' hs => ?_) hcls
  obtain ⟨oL, _, _, hoL, _⟩ := id hn
  refine h _ ⟨I.ok, I.os, I.bare, ⟨fun b o e n hb hx => ?_, fun b o e n hb hx => ?_, I.base.free, fun b o e hx => ?_, I.base.tups, I.base.frzs, I.base.tbls⟩, ⟨_, hn', fun j y v' e1 e2 e3 => ?_⟩, fun y c e => ?_, I.free, I.freeC, fun p hp => ?_, tracked ⟨oL, hoL, I.free⟩ hs, by simpa using I.len⟩ ⟨_, hs, .inl rfl⟩
  ·exact (hs.2 b (Nat.ne_of_lt (Nat.lt_of_lt_of_le (Heap.lt_size e) I.ok.above))).trans (I.base.keep b o e n hb hx)
  ·obtain ⟨sl, e1⟩ := I.base.slot b o e n hb hx
   exact ⟨sl, (hs.2 b (Nat.ne_of_lt (Nat.lt_of_lt_of_le (Heap.lt_size e) I.ok.above))).trans e1⟩
  ·obtain ⟨o', e1⟩ := I.base.there b o e hx
   exact ⟨o', (hs.2 b (Nat.ne_of_lt (Nat.lt_of_lt_of_le (Heap.lt_size e) I.ok.above))).trans e1⟩
  ·by_cases hj : j = i
   ·subst hj
    rw [hi] at e1; cases e1
    rw [List.getElem?_set_self hiσ] at e2
    cases e2
    exact ⟨u, r, .inl ⟨hk, by simp⟩⟩
   ·rw [List.getElem?_set_ne (Ne.symm hj)] at e2
    obtain ⟨u', r', q⟩ := hl j y v' e1 e2 e3
    refine ⟨u', r', ?_⟩
    rcases q with ⟨k, e⟩ | ⟨k, c, e, z⟩
    ·refine .inl ⟨k, ?_⟩
     have : y ≠ x := fun e => hj (b1l hN e1 (e ▸ hi))
     simp [this, e]
    ·exact .inr ⟨k, c, e, z.sameBut hs (cne y c e)⟩
  ·obtain ⟨w', z⟩ := I.cell y c e
   exact ⟨w', z.sameBut hs (cne y c e)⟩
  ·obtain ⟨e, n, ne, nf, d⟩ := I.pin p hp
   exact ⟨(hs.2 p.1 ne).trans e, n, ne, nf, d⟩
 ·have hfn : X.fn x = true := by
   rcases hf with z | z
   ·exact z
   ·rw [z] at hk; cases hk
  obtain ⟨c, hc⟩ := I.ok.has x (.inl hk)
  obtain ⟨w', z⟩ := I.cell x c hc
  refine wpAny_storeName_cell I.ok.kind hk hc z (fun h' hc' hs => ?_)
  obtain ⟨oc, hoc, hocd⟩ := id z
  refine h { s with heap := h' } ⟨I.ok, I.os, I.bare, ⟨fun b o e n hb hx => ?_, fun b o e n hb hx => ?_, I.base.free, fun b o e hx => ?_, I.base.tups, I.base.frzs, I.base.tbls⟩, ⟨m, hn.sameBut hs (Ne.symm (cne x c hc)), fun j y v' e1 e2 e3 => ?_⟩, fun y c' e => ?_, I.free, I.freeC, fun p hp => ?_, tracked ⟨oc, hoc, I.freeC x c hc⟩ hs, by simpa using I.len⟩ ⟨c, hs, .inr hc⟩
  ·exact (hs.2 b (Nat.ne_of_lt (Nat.lt_of_lt_of_le (Heap.lt_size e) (I.ok.cab x c hfn hc)))).trans (I.base.keep b o e n hb hx)
  ·obtain ⟨sl, e1⟩ := I.base.slot b o e n hb hx
   exact ⟨sl, (hs.2 b (Nat.ne_of_lt (Nat.lt_of_lt_of_le (Heap.lt_size e) (I.ok.cab x c hfn hc)))).trans e1⟩
  ·obtain ⟨o', e1⟩ := I.base.there b o e hx
   exact ⟨o', (hs.2 b (Nat.ne_of_lt (Nat.lt_of_lt_of_le (Heap.lt_size e) (I.ok.cab x c hfn hc)))).trans e1⟩
  ·by_cases hj : j = i
   ·subst hj
    rw [hi] at e1; cases e1
    rw [List.getElem?_set_self hiσ] at e2
    cases e2
    exact ⟨u, r, .inr ⟨.inl hk, c, hc, hc'⟩⟩
   ·rw [List.getElem?_set_ne (Ne.symm hj)] at e2
    obtain ⟨u', r', q⟩ := hl j y v' e1 e2 e3
    refine ⟨u', r', ?_⟩
    rcases q with q | ⟨k, c', e, z'⟩
    ·exact .inl q
    ·refine .inr ⟨k, c', e, z'.sameBut hs ?_⟩
     rintro rfl
     exact hj (b1l hN e1 (I.ok.inj _ _ _ e hc ▸ hi))
  ·by_cases hcc : c' = c
   ·subst hcc; exact ⟨_, hc'⟩
   ·obtain ⟨w2, z2⟩ := I.cell y c' e
    exact ⟨w2, z2.sameBut hs hcc⟩
  ·obtain ⟨e, n, ne, nf, d⟩ := I.pin p hp
   refine ⟨(hs.2 p.1 ?_).trans e, n, ne, nf, d⟩
   intro q
   rw [q, hoc] at e
   have q' : oc = p.2 := Option.some.inj e
   exact d w' (by rw [← q']; exact hocd)
theorem b0T {M : Model} {A : Around} {E : Value → Shared → Prop} {i : Nat} {x : Str} {v : V} {u : Value} {Q : Unit → Shared → Prop} (I : Inv X pins σ H s) (hN : X.N.Nodup) (hi : X.N[i]? = some x) (hx : Loc X.env.scope x) (r : RelV v u)
  (h : ∀ s', Inv X pins (σ.set i (some v)) H s' → Q () s') (hf : X.fn x = true ∨ X.env.scope.names.lookup x = some .local := by first | exact .inl rfl | exact .inr rfl | assumption) : wpAny M A (storeName X.env x u) Q E s :=
 a8u I hN hi hx r (fun s' I' _ => h s' I') hf
theorem Inv.call' {s' : Shared} {ch : List Addr} (I : Inv X pins σ H s) (ho : s'.os = s.os) (u : Un (frs X.stack) ch H H' s.heap s'.heap) (hok : HOk X.prog X.w H' s'.heap) (hg : AllBare s'.gens)
  (hch : ∀ b ∈ ch, (b ∈ X.ex ∨ X.s₀.heap.objs.size ≤ b) ∧ b ≠ X.env.locals ∧ (∀ x c, X.env.cells.lookup x = some c → c ≠ b) ∧ ∀ p ∈ X.pn ++ pins, p.1 ≠ b) : Inv X pins σ H' s' := by
 obtain ⟨h', g', d', t', o'⟩ := s'
 have e : o' = s.os := ho
 subst e
 exact I.call (g' := g') (t' := t') (d' := d') u hok hg hch
end
noncomputable abbrev XK := Value → Option Addr → Hp → Prop
noncomputable abbrev St := List (Option V)
noncomputable abbrev VK := V → Hp → Prop
noncomputable abbrev TE := St → Hp → VK → Prop
noncomputable abbrev TT := St → Hp → (Bool → Hp → Prop) → Prop
noncomputable abbrev TA := St → Hp → (List V → Hp → Prop) → Prop
structure Ends where
 nx : St → Hp → Prop
 rt : VK
 bk : St → Hp → Prop := fun _ _ => False
 ct : St → Hp → Prop := fun _ _ => False
noncomputable abbrev TS := Ends → St → Hp → Prop
noncomputable def EP (X : Cx) (pins : List (Addr × Obj)) (σ : St) (Q : VK) (u : Value) (s' : Shared) : Prop := ∃ v H', Inv X pins σ H' s' ∧ RelV v u ∧ Q v H'
noncomputable def TP (X : Cx) (pins : List (Addr × Obj)) (σ : St) (Q : Bool → Hp → Prop) (b : Bool) (s' : Shared) : Prop := ∃ H', Inv X pins σ H' s' ∧ Q b H'
noncomputable def AP (X : Cx) (pins : List (Addr × Obj)) (σ : St) (Q : List V → Hp → Prop) (us : List Value) (s' : Shared) : Prop := ∃ vs H', Inv X pins σ H' s' ∧ Vals vs us ∧ Q vs H'
noncomputable def SP (X : Cx) (pins : List (Addr × Obj)) (D : Ends) (f : Flow) (s' : Shared) : Prop :=
 match f with
 | .next => ∃ σ' H', Inv X pins σ' H' s' ∧ D.nx σ' H'
 | .brk => ∃ σ' H', Inv X pins σ' H' s' ∧ D.bk σ' H'
 | .cont => ∃ σ' H', Inv X pins σ' H' s' ∧ D.ct σ' H'
 | .ret u => ∃ v σ' H', Inv X pins σ' H' s' ∧ RelV v u ∧ D.rt v H'
noncomputable def PE (X : Cx) (e : Expr) (t : TE) : Prop :=
 ∀ (pins : List (Addr × Obj)) (s : Shared) (σ : St) (H : Hp) (Q : VK), Inv X pins σ H s → t σ H Q → wpAny (model X.prog X.w) X.A (eval e X.env) (EP X pins σ Q) X.xe s
noncomputable def PT (X : Cx) (e : Expr) (t : TT) : Prop :=
 ∀ (pins : List (Addr × Obj)) (s : Shared) (σ : St) (H : Hp) (Q : Bool → Hp → Prop), Inv X pins σ H s → t σ H Q → wpAny (model X.prog X.w) X.A (isTrue e X.env (eval e X.env)) (TP X pins σ Q) X.xe s
noncomputable def PW (X : Cx) (e : Expr) (t : TT) : Prop :=
 ∀ (whole : Sem Value) (pins : List (Addr × Obj)) (s : Shared) (σ : St) (H : Hp) (Q : Bool → Hp → Prop), Inv X pins σ H s → t σ H Q → wpAny (model X.prog X.w) X.A (isTrue e X.env whole) (TP X pins σ Q) X.xe s
theorem PW.pt {X : Cx} {e : Expr} {t : TT} (h : PW X e t) : PT X e t := h _
noncomputable def PA (X : Cx) (es : List Expr) (t : TA) : Prop :=
 ∀ (pos : Pos) (pins : List (Addr × Obj)) (s : Shared) (σ : St) (H : Hp) (Q : List V → Hp → Prop), Inv X pins σ H s → t σ H Q → wpAny (model X.prog X.w) X.A (spliced (backTo pos (starEach es X.env))) (AP X pins σ Q) X.xe s
noncomputable def PS (X : Cx) (st : Stmt) (t : TS) : Prop :=
 ∀ (pins : List (Addr × Obj)) (s : Shared) (σ : St) (H : Hp) (D : Ends), Inv X pins σ H s → t D σ H → wpAny (model X.prog X.w) X.A (exec st X.env) (SP X pins D) X.xe s
noncomputable def PSs (X : Cx) (st : List Stmt) (t : TS) : Prop :=
 ∀ (pins : List (Addr × Obj)) (s : Shared) (σ : St) (H : Hp) (D : Ends), Inv X pins σ H s → t D σ H → wpAny (model X.prog X.w) X.A (execs st X.env) (SP X pins D) X.xe s
theorem thn {α : Type} {t : Sem α} {Q Q' : α → Shared → Prop} {M : Model} {A : Around} {E : Value → Shared → Prop} {s : Shared} (h : wpAny M A t Q E s) (hQ : ∀ a s, Q a s → Q' a s) : wpAny M A t Q' E s := wpAny_mono h hQ fun _ _ x => x
section
variable {X : Cx}
noncomputable def tVar (i : Nat) : TE := fun σ H Q => ∃ v, σ[i]? = some (some v) ∧ Q v H
noncomputable def tC (v : V) : TE := fun _ H Q => Q v H
theorem c0r {i : Nat} {x : Str} {pos : Pos} (hN : X.N[i]? = some x) (hv : Vis X.env.scope x) (hd : (x == ("__debug__" : Str)) = false := by decide) (hcd : (x == ("__classdict__" : Str)) = false := by decide) : PE X (.Name x pos) (tVar i) := by
 intro pins s σ H Q I h
 obtain ⟨v, e, h⟩ := h
 obtain ⟨m, hn, hl⟩ := I.loc
 obtain ⟨u, r, l⟩ := hl i x v hN e hv
 have fin : EP X pins σ Q u s := ⟨v, H, I, r, h⟩
 rcases l with ⟨hk, hm⟩ | ⟨hk, c, hc, hcell⟩
 ·exact wpAny_Name (wpAny_loadName_local I.ok.kind hk hn hm fin) hd
 ·rcases hk with hk | hk
  ·exact wpAny_Name (wpAny_loadName_cell I.ok.kind hk hc hcell fin) hd
  ·exact wpAny_Name (wpAny_loadName_free I.ok.kind hk hc hcell fin hcd) hd
theorem c0v {i j pos} : PE X (.Constant (.int i) j pos) (tC (.int i)) := fun _ _ _ H _ I h => wpAny_Constant_int ⟨.int i, H, I.tok _, ⟨_, rfl⟩, h⟩
theorem c1O {b j pos} : PE X (.Constant (.bool b) j pos) (tC (.bl b)) := fun _ _ _ H _ I h => Constant_bool ⟨.bl b, H, I, rfl, h⟩
noncomputable def Gl (X : Cx) (x : Str) : Prop := X.env.kindOf x = some .globalImplicit
theorem b3R {E : Value → Shared → Prop} {pins : List (Addr × Obj)} {s : Shared} {σ : St} {H : Hp} {x : Str} {u : Value} {pos : Pos} {Q : Value → Shared → Prop} (I : Inv X pins σ H s) (hg : Gl X x) (hm : X.mg x = some u) (h : Q u s)
  (hd : (x == ("__debug__" : Str)) = false := by decide) : wpAny (model X.prog X.w) X.A (eval (.Name x pos) X.env) Q E s :=
 Calls.Name_function_global I.ok.kind hg (Calls.loadGlobal_global (by rw [I.ok.glob]; exact I.mod.glob.keeps I.bk) hm h) hd
theorem a3j {E : Value → Shared → Prop} {pins : List (Addr × Obj)} {s : Shared} {σ : St} {H : Hp} {x : Str} {u : Value} {pos : Pos} {Q : Value → Shared → Prop} (I : Inv X pins σ H s) (hg : Gl X x) (hm : X.mg x = none) (hv : bootBuiltins x = some u) (h : Q u s)
  (hn : x ≠ "__name__" := by decide) (hd : (x == ("__debug__" : Str)) = false := by decide) : wpAny (model X.prog X.w) X.A (eval (.Name x pos) X.env) Q E s := by
 obtain ⟨mb, h1, h2⟩ := I.mod.blt
 exact Calls.Name_function_global I.ok.kind hg (Calls.loadGlobal_builtin (by rw [I.ok.glob]; exact I.mod.glob.keeps I.bk) hm (by rw [I.ok.blt]; exact h1.keeps I.bk) ((h2 x hn).trans hv) h) hd
theorem b3C {x : Str} {v : V} {u : Value} {pos : Pos} (hg : Gl X x) (hm : X.mg x = some u) (r : RelV v u) (hd : (x == ("__debug__" : Str)) = false := by decide) : PE X (.Name x pos) (tC v) :=
 fun _ _ _ H _ I h => b3R I hg hm ⟨v, H, I, r, h⟩ hd
variable {a b : Expr} {ta tb : TE} {pos : Pos}
variable {tA tB' : TT} {rest : List Expr}
noncomputable def tAnd (t u : TT) : TT := fun σ H Q => t σ H fun c H1 => if c = true then u σ H1 Q else Q false H1
noncomputable def tOr (t u : TT) : TT := fun σ H Q => t σ H fun c H1 => if c = true then Q true H1 else u σ H1 Q
noncomputable def tNot (t : TT) : TT := fun σ H Q => t σ H fun c H1 => Q (!c) H1
theorem b8a (ha : PT X a tA) : PW X (.BoolOp .And [a] pos) tA := by
 intro wh pins s σ H Q I h
 refine isTrue_and (thn (ha pins s σ H Q I h) fun c s1 e => ?_)
 cases c with
 | true => exact isTrue_and_nil e
 | false => exact e
theorem c0j (ha : PT X a tA) : PW X (.BoolOp .Or [a] pos) tA := by
 intro wh pins s σ H Q I h
 refine isTrue_or (thn (ha pins s σ H Q I h) fun c s1 e => ?_)
 cases c with
 | false => exact isTrue_or_nil e
 | true => exact e
theorem c0k (ha : PT X a tA) (hb : PW X (.BoolOp .And (b :: rest) pos) tB') : PW X (.BoolOp .And (a :: b :: rest) pos) (tAnd tA tB') := by
 intro wh pins s σ H Q I h
 refine isTrue_and (thn (ha pins s σ H _ I h) fun c s1 ⟨H1, I1, q1⟩ => ?_)
 cases c with
 | true => exact hb wh pins s1 σ H1 Q I1 q1
 | false => exact ⟨H1, I1, q1⟩
theorem c1H (ha : PT X a tA) (hb : PW X (.BoolOp .Or (b :: rest) pos) tB') : PW X (.BoolOp .Or (a :: b :: rest) pos) (tOr tA tB') := by
 intro wh pins s σ H Q I h
 refine isTrue_or (thn (ha pins s σ H _ I h) fun c s1 ⟨H1, I1, q1⟩ => ?_)
 cases c with
 | true => exact ⟨H1, I1, q1⟩
 | false => exact hb wh pins s1 σ H1 Q I1 q1
theorem c0l (ha : PT X a tA) : PT X (.UnaryOp .Not a pos) (tNot tA) := by
 intro pins s σ H Q I h
 exact isTrue_not (ha pins s σ H (fun c H1 => Q (!c) H1) I h)
noncomputable def tOrV (ta tb : TE) : TE := fun σ H Q => ta σ H fun x H1 => ∃ c, x = .bl c ∧ if c = true then Q (.bl true) H1 else tb σ H1 Q
theorem c0t {op} {t : TE} (h : PE X a t) : PE X (.BoolOp op [a] pos) t := fun pins s σ H Q I hw => BoolOp_one (h pins s σ H Q I hw)
theorem c1K (ha : PE X a ta) (hb : PE X (.BoolOp .Or (b :: rest) pos) tb) : PE X (.BoolOp .Or (a :: b :: rest) pos) (tOrV ta tb) := by
 intro pins s σ H Q I h
 refine BoolOp_or (thn (ha pins s σ H _ I h) fun v s1 ⟨x, H1, I1, r1, q1⟩ => ?_)
 obtain ⟨c, rfl, q1⟩ := q1
 cases r1
 refine wpAny_truthy_bool ?_
 cases c with
 | false => exact hb pins s1 σ H1 Q I1 q1
 | true => exact ⟨.bl true, H1, I1, rfl, q1⟩
noncomputable def tIf (t : TT) (ta tb : TE) : TE := fun σ H Q => t σ H fun c H1 => if c = true then ta σ H1 Q else tb σ H1 Q
theorem b5G {c : Expr} (hc : PT X c tA) (ha : PE X a ta) (hb : PE X b tb) : PE X (.IfExp c a b pos) (tIf tA ta tb) := by
 intro pins s σ H Q I h
 refine wpAny_IfExp (thn (hc pins s σ H _ I h) fun d s1 ⟨H1, I1, q1⟩ => ?_)
 cases d with
 | true => exact ha pins s1 σ H1 Q I1 q1
 | false => exact hb pins s1 σ H1 Q I1 q1
end
noncomputable def SqL (K : PySem.W.Frag) (H : Hp) (a : Addr) (xs : List V) : Prop :=
 Rd H a (.lst xs) ∨
  ∃ (o : Obj) (its : Array Value) (n : Nat), K.lookup a = some o ∧ o.cls = .type "list" ∧ o.dict = none ∧ o.data = .seq its n ∧ its.size ≤ sizeLine ∧ Vals xs its.toList
noncomputable def SqT (K : PySem.W.Frag) (H : Hp) (a : Addr) (xs : List V) : Prop :=
 Rd H a (.tup xs) ∨
  ∃ (o : Obj) (its : Array Value) (n : Nat), K.lookup a = some o ∧ o.cls = .type "tuple" ∧ o.dict = none ∧ o.data = .seq its n ∧ its.size ≤ sizeLine ∧ Vals xs its.toList
noncomputable def absV : Value → Option V
 | .none => some .non
 | .bool b => some (.bl b)
 | .int i _ => some (.int i)
 | .str x _ => some (.str x)
 | .bytes b _ => some (.byt b)
 | .float b _ => some (.flt b)
 | .ref a => some (.ref a)
 | .type n => some (.ty n)
 | _ => none
theorem RelV.abs {x : V} {u : Value} (r : RelV x u) : absV u = some x := by
 cases x with
 | non => cases r; rfl
 | bl _ => cases r; rfl
 | int _ => obtain ⟨t, rfl⟩ := r; rfl
 | str _ => obtain ⟨t, rfl⟩ := r; rfl
 | byt _ => obtain ⟨t, rfl⟩ := r; rfl
 | flt _ => obtain ⟨t, rfl⟩ := r; rfl
 | ref _ => cases r; rfl
 | ty _ => cases r; rfl
theorem RelV.inj {x y : V} {u : Value} (r : RelV x u) (q : RelV y u) : x = y := Option.some.inj (r.abs.symm.trans q.abs)
theorem Vals.inj : ∀ {xs ys : List V} {us : List Value}, Vals xs us → Vals ys us → xs = ys
 | _, _, _, .nil, .nil => rfl
 | _, _, _, .cons r t, .cons r' t' => by rw [r.inj r', Vals.inj t t']
section
variable {X : Cx} {pins : List (Addr × Obj)} {σ : St} {H : Hp} {s : Shared} {a : Addr} {xs ys : List V}
theorem SqL.of {K : PySem.W.Frag} (h : H a = some (.lst xs)) : SqL K H a xs := .inl (.inl h)
theorem SqT.of {K : PySem.W.Frag} (h : H a = some (.tup xs)) : SqT K H a xs := .inl (.inl h)
theorem Inv.list (I : Inv X pins σ H s) (h : SqL X.K H a xs) : ∃ its : List Value, Vals xs its ∧ PlainL s.heap a its.toArray ∧ xs.length ≤ sizeLine := by
 rcases h with h | ⟨o, its, n, hk, hc, hd, hs, hz, r⟩
 ·obtain ⟨z, its, n, r, e⟩ := h.ok I.hok
  exact ⟨its, r, ⟨_, n, e, rfl, rfl, rfl⟩, z⟩
 ·refine ⟨its.toList, r, ⟨o, n, I.kIn a o hk, hc, hd, by simpa using hs⟩, ?_⟩
  have e := r.length
  simp only [Array.length_toList] at e
  lia
theorem Inv.tuple (I : Inv X pins σ H s) (h : SqT X.K H a xs) : ∃ its : List Value, Vals xs its ∧ IsTup s.heap a its.toArray ∧ xs.length ≤ sizeLine := by
 rcases h with h | ⟨o, its, n, hk, hc, hd, hs, hz, r⟩
 ·obtain ⟨z, its, r, p⟩ := h.ok I.hok
  exact ⟨its, r, p.t, z⟩
 ·refine ⟨its.toList, r, ⟨o, I.kIn a o hk, hc, n, by simpa using hs⟩, ?_⟩
  have e := r.length
  simp only [Array.length_toList] at e
  lia
theorem Inv.tuple0 (I : Inv X pins σ H s) (h : SqT X.K H a xs) : ∃ its : List Value, Vals xs its ∧ a2B s.heap a its.toArray ∧ xs.length ≤ sizeLine := by
 rcases h with h | ⟨o, its, n, hk, hc, hd, hs, hz, r⟩
 ·obtain ⟨z, its, r, p⟩ := h.ok I.hok
  exact ⟨its, r, p, z⟩
 ·refine ⟨its.toList, r, ⟨o, I.kIn a o hk, hc, hd, n, by simpa using hs⟩, ?_⟩
  have e := r.length
  simp only [Array.length_toList] at e
  lia
theorem Inv.list_inj (I : Inv X pins σ H s) (h : SqL X.K H a xs) (h' : SqL X.K H a ys) : xs = ys := by
 obtain ⟨its, r, ⟨o, n, e, _, _, d⟩, _⟩ := I.list h
 obtain ⟨its', r', ⟨o', n', e', _, _, d'⟩, _⟩ := I.list h'
 rw [e] at e'; cases e'
 rw [d] at d'
 injection d' with d1 _
 have : its = its' := by simpa using congrArg Array.toList d1
 subst this
 exact r.inj r'
theorem Inv.tuple_inj (I : Inv X pins σ H s) (h : SqT X.K H a xs) (h' : SqT X.K H a ys) : xs = ys := by
 obtain ⟨its, r, ⟨o, e, _, n, d⟩, _⟩ := I.tuple h
 obtain ⟨its', r', ⟨o', e', _, n', d'⟩, _⟩ := I.tuple h'
 rw [e] at e'; cases e'
 rw [d] at d'
 injection d' with d1 _
 have : its = its' := by simpa using congrArg Array.toList d1
 subst this
 exact r.inj r'
end
noncomputable abbrev Cx.wish (X : Cx) (E : Value → Shared → Prop) : Cx := { X with xe := E }
noncomputable abbrev Cx.nox (X : Cx) : Cx := X.wish fun _ _ => False
theorem Cx.Ok.wish {X : Cx} (ok : X.Ok) (E : Value → Shared → Prop) : (X.wish E).Ok :=
 ⟨ok.mod, ok.kind, ok.glob, ok.blt, ok.above, ok.inj, ok.has, ok.cab, ok.hd, ok.frames, ok.stk, ok.exf, ok.bs, ok.bsz, ok.noex, ok.exfs, ok.funs, ok.frf⟩
theorem Cx.Ok.unwish {X : Cx} {E : Value → Shared → Prop} (ok : (X.wish E).Ok) : X.Ok :=
 ⟨ok.mod, ok.kind, ok.glob, ok.blt, ok.above, ok.inj, ok.has, ok.cab, ok.hd, ok.frames, ok.stk, ok.exf, ok.bs, ok.bsz, ok.noex, ok.exfs, ok.funs, ok.frf⟩
section
variable {X : Cx} {pins : List (Addr × Obj)} {σ : St} {H : Hp} {s : Shared} {E : Value → Shared → Prop}
theorem Inv.wish (I : Inv X pins σ H s) (E : Value → Shared → Prop) : Inv (X.wish E) pins σ H s := ⟨I.ok.wish E, I.os, I.bare, I.base, I.loc, I.cell, I.free, I.freeC, I.pin, I.hok, I.len⟩
theorem Inv.unwish (I : Inv (X.wish E) pins σ H s) : Inv X pins σ H s := ⟨I.ok.unwish, I.os, I.bare, I.base, I.loc, I.cell, I.free, I.freeC, I.pin, I.hok, I.len⟩
theorem SP.unwish {D : Ends} {f : Flow} {s' : Shared} (h : SP (X.wish E) pins D f s') : SP X pins D f s' := by
 cases f with
 | next => obtain ⟨σ', H', I, q⟩ := h; exact ⟨σ', H', I.unwish, q⟩
 | brk => obtain ⟨σ', H', I, q⟩ := h; exact ⟨σ', H', I.unwish, q⟩
 | cont => obtain ⟨σ', H', I, q⟩ := h; exact ⟨σ', H', I.unwish, q⟩
 | ret u => obtain ⟨v, σ', H', I, r, q⟩ := h; exact ⟨v, σ', H', I.unwish, r, q⟩
theorem PSs.nox {st : List Stmt} {t : TS} (h : PSs X.nox st t) : PSs X st t := fun pins s σ H D I hw =>
 wpAny_mono (h pins s σ H D (I.wish _) hw) (fun _ _ q => q.unwish) fun _ _ z => False.elim z
end
section
variable {X : Cx} {st : Stmt} {rest : List Stmt} {t u : TS} {e : Expr} {te : TE} {pos : Pos}
noncomputable def c1w : TS := fun D σ H => D.nx σ H
noncomputable def tSeq (t u : TS) : TS := fun D σ H => t { D with nx := u D } σ H
theorem b8f : PSs X [] c1w := fun _ _ σ H _ I h => wpAny_execs_nil ⟨σ, H, I, h⟩
theorem b5D (h1 : PS X st t) (h2 : PSs X rest u) : PSs X (st :: rest) (tSeq t u) := by
 intro pins s σ H D I h
 refine wpAny_execs_cons (thn (h1 pins s σ H { D with nx := u D } I h) fun f s1 q => ?_)
 cases f with
 | next =>
   obtain ⟨σ', H', I', q⟩ := q
   exact h2 pins s1 σ' H' D I' q
 | ret v => exact q
 | brk => exact q
 | cont => exact q
theorem b8e (h1 : PS X st t) : PSs X [st] t := by
 intro pins s σ H D I h
 refine wpAny_execs_cons (thn (h1 pins s σ H D I h) fun f s1 q => ?_)
 cases f with
 | next => exact wpAny_execs_nil q
 | ret v => exact q
 | brk => exact q
 | cont => exact q
theorem Inv.quiet {pins : List (Addr × Obj)} {σ : St} {H : Hp} {s : Shared} (I : Inv X pins σ H s) : interactive X.env = false := by simp [interactive, I.ok.kind]
noncomputable def c1x (te : TE) : TS := fun D σ H => te σ H fun _ H1 => D.nx σ H1
theorem b8h (he : PE X e te) (hs : swapsWith e none pos.line X.env = pure false := by rfl) : PS X (.Expr e pos) (c1x te) := by
 intro pins s σ H D I h
 exact wpAny_Expr_any (thn (he pins s σ H _ I h) fun v s1 ⟨x, H1, I1, r1, q1⟩ => ⟨σ, H1, I1, q1⟩) I.quiet hs
noncomputable def tRet (te : TE) : TS := fun D σ H => te σ H D.rt
theorem c0n (he : PE X e te) : PS X (.Return (some e) pos) (tRet te) := by
 intro pins s σ H D I h
 exact wpAny_Return_some (thn (he pins s σ H _ I h) fun v s1 ⟨x, H1, I1, r1, q1⟩ => ⟨x, σ, H1, I1, r1, q1⟩)
noncomputable def tIfS (c : TT) (t u : TS) : TS := fun D σ H => c σ H fun b H1 => if b = true then t D σ H1 else u D σ H1
theorem c1I {c : Expr} {a b : List Stmt} {tc : TT} (hc : PT X c tc) (ha : PSs X a t) (hb : PSs X b u) : PS X (.If c a b pos) (tIfS tc t u) := by
 intro pins s σ H D I h
 refine wpAny_If (thn (hc pins s σ H _ I h) fun d s1 ⟨H1, I1, q1⟩ => ?_)
 cases d with
 | true => exact ha pins s1 σ H1 D I1 q1
 | false => exact hb pins s1 σ H1 D I1 q1
end
noncomputable abbrev TG := V → St → Hp → (St → Hp → Prop) → Prop
noncomputable abbrev TGs := List V → St → Hp → (St → Hp → Prop) → Prop
noncomputable def PG (X : Cx) (target : Expr) (t : TG) : Prop :=
 ∀ (pins : List (Addr × Obj)) (s : Shared) (σ : St) (H : Hp) (v : V) (u : Value) (Q : St → Hp → Prop), Inv X pins σ H s → RelV v u → t v σ H Q →
   wpAny (model X.prog X.w) X.A (assign target X.env u) (fun _ s' => ∃ σ' H', Inv X pins σ' H' s' ∧ Q σ' H') X.xe s
noncomputable def PGs (X : Cx) (ts : List Expr) (t : TGs) : Prop :=
 ∀ (pins : List (Addr × Obj)) (s : Shared) (σ : St) (H : Hp) (vs : List V) (us : List Value) (Q : St → Hp → Prop), Inv X pins σ H s → Vals vs us → t vs σ H Q →
   wpAny (model X.prog X.w) X.A (assignInOrder ((assignEach ts X.env).map (·.2)) us) (fun _ s' => ∃ σ' H', Inv X pins σ' H' s' ∧ Q σ' H') X.xe s
noncomputable abbrev TSet := V → V → V → Hp → (Hp → Prop) → Prop
noncomputable def PSet (X : Cx) (t : TSet) : Prop :=
 ∀ (pins : List (Addr × Obj)) (s : Shared) (σ : St) (H : Hp) (o i v : V) (ov iv u : Value) (Q : Hp → Prop), Inv X pins σ H s → RelV o ov → RelV i iv → RelV v u → t o i v H Q →
   wpAny (model X.prog X.w) X.A (setItem ov iv u) (fun _ s' => ∃ H', Inv X pins σ H' s' ∧ Q H') X.xe s
section
variable {X : Cx} {pos : Pos}
noncomputable def a9i (i : Nat) : TG := fun v σ H Q => Q (σ.set i (some v)) H
theorem a1y {i : Nat} {x : Str} (hN : X.N.Nodup) (hi : X.N[i]? = some x) (hx : Loc X.env.scope x) (hf : X.fn x = true ∨ X.env.scope.names.lookup x = some .local := by first | exact .inl rfl | exact .inr rfl | assumption) : PG X (.Name x pos) (a9i i) := by
 intro pins s σ H v u Q I r h
 exact wpAny_assign_Name (b0T I hN hi hx r (fun s' I' => ⟨_, H, I', h⟩) hf)
noncomputable def gNil : TGs := fun vs σ H Q => vs = [] ∧ Q σ H
noncomputable def b6n (t : TG) (u : TGs) : TGs := fun vs σ H Q => ∃ v r, vs = v :: r ∧ t v σ H fun σ' H' => u r σ' H' Q
theorem b3A : PGs X [] gNil := by
 intro pins s σ H vs us Q I r h
 obtain ⟨e, h⟩ := h
 subst e
 cases r
 exact assignInOrder_nil ⟨σ, H, I, h⟩
theorem a7x {e : Expr} {es : List Expr} {t : TG} {u : TGs} (h1 : PG X e t) (h2 : PGs X es u)
  (hs : (assignEach (e :: es) X.env).map (·.2) = assign e X.env :: (assignEach es X.env).map (·.2) := by rfl) : PGs X (e :: es) (b6n t u) := by
 intro pins s σ H vs us Q I r h
 obtain ⟨v, vr, e1, h⟩ := h
 subst e1
 cases r with
 | cons r rr =>
   rw [hs]
   refine assignInOrder_cons (thn (h1 pins s σ H _ _ _ I r h) fun _ s1 ⟨σ1, H1, I1, q1⟩ => ?_)
   exact h2 pins s1 σ1 H1 _ _ Q I1 rr q1
noncomputable def gTup (K : PySem.W.Frag) (n : Nat) (t : TGs) : TG := fun v σ H Q => ∃ a xs, v = .ref a ∧ SqT K H a xs ∧ xs.length = n ∧ t xs σ H Q
theorem b6Q {es : List Expr} {k : Nat} {t : TGs} {n : Nat} (hc : X.calm = true) (h : PGs X es t)
  (hn : (assignEach es X.env).length = n := by rfl) (hst : (assignEach es X.env).findIdx? (·.1) = none := by rfl) : PG X (.Tuple es k pos) (gTup X.K n t) := by
 intro pins s σ H v u Q I r hw
 obtain ⟨a, xs, e1, hq, hl, hw⟩ := hw
 subst e1
 cases r
 obtain ⟨its, rv, ht, hz⟩ := I.tuple hq
 refine assign_Tuple_tuple (I.ok.hd hc) ht (by simp [hn, ← hl, rv.length]) hst fun h' hx => ?_
 have I1 : Inv X pins σ H { s with heap := h' } := I.kept (t' := s.toks) fun b o e => hx b o (Nat.ne_of_lt (Heap.lt_size e)) e
 exact h pins _ σ H xs _ Q I1 (by simpa using rv) hw
noncomputable def gSub (to ti : TE) (t : TSet) : TG := fun v σ H Q => to σ H fun o H1 => ti σ H1 fun i H2 => t o i v H2 fun H3 => Q σ H3
theorem c0q {o i : Expr} {to ti : TE} {t : TSet} (ho : PE X o to) (hi : PE X i ti) (hs : PSet X t)
  (ha : ∀ v, assign (.Subscript o i pos) X.env v = (do
   let ov ← holding [v] (eval o X.env)
   let iv ← holding [v, ov] (eval i X.env)
   standAt pos
   holding [v, ov, iv] (setItem ov iv v)
   release [v, ov, iv] []) := by intro _; rfl) : PG X (.Subscript o i pos) (gSub to ti t) := by
 intro pins s σ H v u Q I r h
 rw [ha]
 refine wpAny_bind (wpAny_holding (thn (ho pins s σ H _ I h) fun ov s1 ⟨x, H1, I1, r1, q1⟩ => ?_))
 refine wpAny_bind (wpAny_holding (thn (hi pins s1 σ H1 _ I1 q1) fun iv s2 ⟨y, H2, I2, r2, q2⟩ => ?_))
 refine wpAny_bind (wpAny_standAt (wpAny_bind (wpAny_holding (thn (hs pins s2 σ H2 x y v ov iv u _ I2 r1 r2 r q2) fun _ s3 ⟨H3, I3, q3⟩ => ?_))))
 exact wpAny_release ⟨σ, H3, I3, q3⟩
noncomputable def tAsg (te : TE) (g : TG) : TS := fun D σ H => te σ H fun x H1 => g x σ H1 D.nx
theorem c0p {tg e : Expr} {te : TE} {g : TG} (he : PE X e te) (hg : PG X tg g) (hs : swapsWithSole [tg] e pos.line X.env = pure false := by rfl) (hw : swappedStores [tg] e X.env = pure none := by rfl)
  (h1 : (assignEach [tg] X.env).map (·.2) = [assign tg X.env] := by rfl) : PS X (.Assign [tg] e pos) (tAsg te g) := by
 intro pins s σ H D I h
 refine wpAny_Assign_stores (thn (he pins s σ H _ I h) fun v s1 ⟨x, H1, I1, r1, q1⟩ => ?_) hs hw
 rw [h1]
 exact thn (hg pins s1 σ H1 x v _ I1 r1 q1) fun _ s2 q => q
theorem c0m {i : Nat} {x : Str} {e : Expr} {te : TE} {pos' : Pos} (hN : X.N.Nodup) (hi : X.N[i]? = some x) (hx : Loc X.env.scope x) (he : PE X e te) (hs : swapsWith e (some (.Name x pos')) pos.line X.env = pure false := by rfl) (hf : X.fn x = true ∨ X.env.scope.names.lookup x = some .local := by first | exact .inl rfl | exact .inr rfl | assumption) :
  PS X (.Assign [.Name x pos'] e pos) (tAsg te (a9i i)) := by
 intro pins s σ H D I h
 refine wpAny_Assign_Name (thn (he pins s σ H _ I h) fun v s1 ⟨y, H1, I1, r1, q1⟩ => ?_) hs
 exact b0T I1 hN hi hx r1 (fun s2 I2 => ⟨_, H1, I2, q1⟩) hf
end
section
variable {X : Cx} {pos : Pos}
end
structure It where
 go : Nat → Hp → Prop
 yld : Nat → Hp → V → Hp → Prop
 stop : Nat → Hp → Prop
noncomputable def FpOk (X : Cx) (pins : List (Addr × Obj)) (H : Hp) (b : Addr) : Prop :=
 H b = none ∧ b ≠ X.env.locals ∧ b ∉ X.fs ∧ (b ∈ X.ex ∨ X.s₀.heap.objs.size ≤ b) ∧ (∀ x c, X.env.cells.lookup x = some c → c ≠ b) ∧ ∀ p ∈ X.pn ++ pins, p.1 ≠ b
theorem Inv.fpOk {X : Cx} {pins : List (Addr × Obj)} {σ : St} {H H' : Hp} {s : Shared} {b : Addr} (I : Inv X pins σ H s) (hb : s.heap.objs.size ≤ b) (hn : H' b = none) : FpOk X pins H' b := by
 refine ⟨hn, Nat.ne_of_gt (Nat.lt_of_lt_of_le I.lt hb), I.nofs hb, .inr (Nat.le_trans I.sz hb), fun x c e z => ?_, fun p hp z => ?_⟩
 ·obtain ⟨v, q⟩ := I.cell x c e
  exact absurd (Nat.lt_of_lt_of_le q.lt (by rw [z]; exact hb)) (Nat.lt_irrefl _)
 ·exact absurd (Nat.lt_of_lt_of_le (Heap.lt_size (I.pin p hp).1) (by rw [z]; exact hb)) (Nat.lt_irrefl _)
structure Turn (P : Program) (w : World) (K : PySem.W.Frag) (tg : Expr) (J : It) (fp : List Addr) (it : Addr) (tn : Nat → Heap → Prop) : Prop where
 mem : it ∈ fp
 obj : ∀ i h, tn i h → ∀ b ∈ fp, ∃ o, h.get? b = some o ∧ ∀ v, o.data ≠ .cell v
 keep : ∀ i h h', tn i h → (∀ b ∈ fp, ∀ o, h.get? b = some o → h'.get? b = some o) → tn i h'
 item : ∀ (X : Cx), X.prog = P → X.w = w → X.K = K → X.calm = true → ∀ (i : Nat) (pins : List (Addr × Obj)) (s : Shared) (σ : St) (H : Hp) (E : Value → Shared → Prop), Inv X pins σ H s → (∀ b ∈ fp, FpOk X pins H b) → tn i s.heap → J.go i H →
  wpAny (model P w) X.A (pyNext (.ref it)) (fun r s1 => ∃ u, r = some u ∧
   wpAny (model P w) X.A (letOwnedTupleGo tg (.ref it) u) (fun _ s2 => ∃ x H', Inv X pins σ H' s2 ∧ RelV x u ∧ J.yld i H x H' ∧ tn (i + 1) s2.heap ∧ ∀ b ∈ fp, H' b = none) E s1) E s
 done : ∀ (X : Cx), X.prog = P → X.w = w → X.K = K → X.calm = true → ∀ (i : Nat) (pins : List (Addr × Obj)) (s : Shared) (σ : St) (H : Hp) (E : Value → Shared → Prop), Inv X pins σ H s → (∀ b ∈ fp, FpOk X pins H b) → tn i s.heap → J.stop i H →
  wpAny (model P w) X.A (pyNext (.ref it)) (fun r s1 => r = none ∧ Inv X pins σ H s1) E s
 self : ∀ (A : Around) (i : Nat) (s : Shared) (Q : Value → Shared → Prop) (E : Value → Shared → Prop), tn i s.heap → Q (.ref it) s → wpAny (model P w) A (pyIter (.ref it)) Q E s
noncomputable abbrev TI := St → Hp → (It → Hp → Prop) → Prop
noncomputable def PIE (X : Cx) (pins : List (Addr × Obj)) (σ : St) (tg : Expr) (R : It → Hp → Prop) (itv : Value) (s2 : Shared) : Prop :=
 ∃ (it : Addr) (fp : List Addr) (tn : Nat → Heap → Prop) (J : It) (H' : Hp), itv = .ref it ∧ Inv X pins σ H' s2 ∧ Turn X.prog X.w X.K tg J fp it tn ∧ tn 0 s2.heap ∧ (∀ b ∈ fp, FpOk X pins H' b) ∧ R J H'
noncomputable def PI (X : Cx) (tg iter : Expr) (wi : TI) : Prop :=
 ∀ (pins : List (Addr × Obj)) (s : Shared) (σ : St) (H : Hp) (R : It → Hp → Prop), Inv X pins σ H s → wi σ H R →
   wpAny (model X.prog X.w) X.A (eval iter X.env) (fun v s1 => wpAny (model X.prog X.w) X.A (pyIter v) (PIE X pins σ tg R) X.xe s1) X.xe s
theorem b6l {M : Model} {A : Around} {E : Value → Shared → Prop} {s : Shared} {tg : Expr} {it : Addr} {u : Value} {o : Obj} {n : String} {vs : Array Value} {Q : Unit → Shared → Prop} (ho : s.heap.get? it = some o) (hc : o.cls = .type n) (hd : o.data = .fields vs)
  (hn : ["enumerate", "zip", "dict_itemiterator", "dict_reverseitemiterator", "odict_iterator", "itertools.zip_longest", "itertools.pairwise"].contains n = false) (hQ : Q () s) : wpAny M A (letOwnedTupleGo tg (.ref it) u) Q E s := by
 unfold letOwnedTupleGo
 cases tg <;> first
  | exact wpAny_pure hQ
  | (cases u <;> first
    | exact wpAny_pure hQ
    | (refine wpAny_bind (wpAny_load ho ?_)
       rw [hc, hd]
       show wpAny M A (if (["enumerate", "zip", "dict_itemiterator", "dict_reverseitemiterator", "odict_iterator", "itertools.zip_longest", "itertools.pairwise"].contains n && vs[0]? == some (rawInt _)) = true then _ else _) Q E s
       rw [if_neg (by intro h; rw [hn, Bool.false_and] at h; cases h)]
       exact wpAny_pure hQ))
noncomputable def Itl (K : PySem.W.Frag) (a : Addr) : It :=
 ⟨fun i H => ∃ xs x, SqL K H a xs ∧ xs[i]? = some x, fun i H x H' => H' = H ∧ ∀ xs, SqL K H a xs → xs[i]? = some x, fun i H => ∃ xs, SqL K H a xs ∧ xs.length ≤ i⟩
noncomputable def Itt (K : PySem.W.Frag) (a : Addr) : It :=
 ⟨fun i H => ∃ xs x, SqT K H a xs ∧ xs[i]? = some x, fun i H x H' => H' = H ∧ ∀ xs, SqT K H a xs → xs[i]? = some x, fun i H => ∃ xs, SqT K H a xs ∧ xs.length ≤ i⟩
noncomputable def Itr (lo : Int) (n : Nat) : It := ⟨fun i _ => i < n, fun i H x H' => H' = H ∧ x = .int (lo + i), fun i _ => n ≤ i⟩
theorem b2X {P : Program} {w : World} {K : PySem.W.Frag} {tg : Expr} (a it : Addr) : Turn P w K tg (Itl K a) [it] it (fun i h => h.IsListIter it a i) where
 mem := by simp
 obj := fun i h st b hb => by
  have e : b = it := by simpa using hb
  subst e
  obtain ⟨o, e, c, d⟩ := st
  exact ⟨o, e, fun v z => by rw [d] at z; cases z⟩
 keep := fun i h h' st k => st.at fun o e => k it (by simp) o e
 item := by
  intro X hP hw hK hc i pins s σ H E I hf st hg
  subst hP hw hK
  obtain ⟨xs, x, hq, hx⟩ := hg
  obtain ⟨its, rv, p, hz⟩ := I.list hq
  obtain ⟨u, hu, ru⟩ := rv.get hx
  obtain ⟨f0, f1, f2, f3, f4, f5⟩ := hf it (by simp)
  refine wpAny_pyNext_list_item st p.isList (x := u) (by simpa using hu) fun h' st' sb => ?_
  have I1 : Inv X pins σ H { s with heap := h' } := I.turned (t' := s.toks) (fun b o hb e => (sb.2 b hb).trans e) f0 f1 f3 f4 f5
  obtain ⟨o, e, c, d⟩ := id st'
  exact ⟨u, rfl, b6l (s := { s with heap := h' }) e c d (by decide) ⟨x, H, I1, ru, ⟨rfl, fun ys hy => by rw [I.list_inj hy hq]; exact hx⟩, st', fun b hb => (hf b hb).1⟩⟩
 done := by
  intro X hP hw hK hc i pins s σ H E I hf st hg
  subst hP hw hK
  obtain ⟨xs, hq, hx⟩ := hg
  obtain ⟨its, rv, p, hz⟩ := I.list hq
  obtain ⟨f0, f1, f2, f3, f4, f5⟩ := hf it (by simp)
  have hl := rv.length
  exact wpAny_pyNext_list_end (I.ok.hd hc) st p.isList (by simp; lia) fun h' eb => ⟨rfl, I.turned (t' := s.toks) (fun b o hb e => eb b o hb e) f0 f1 f3 f4 f5⟩
 self := fun _ _ _ _ _ st h => wpAny_pyIter_listiter st h
theorem b2b {P : Program} {w : World} {K : PySem.W.Frag} {tg : Expr} (a it : Addr) : Turn P w K tg (Itt K a) [it] it (fun i h => h.IsTupleIter it a i) where
 mem := by simp
 obj := fun i h st b hb => by
  have e : b = it := by simpa using hb
  subst e
  obtain ⟨o, e, c, d⟩ := st
  exact ⟨o, e, fun v z => by rw [d] at z; cases z⟩
 keep := fun i h h' st k => st.at fun o e => k it (by simp) o e
 item := by
  intro X hP hw hK hc i pins s σ H E I hf st hg
  subst hP hw hK
  obtain ⟨xs, x, hq, hx⟩ := hg
  obtain ⟨its, rv, p, hz⟩ := I.tuple hq
  obtain ⟨u, hu, ru⟩ := rv.get hx
  obtain ⟨f0, f1, f2, f3, f4, f5⟩ := hf it (by simp)
  refine wpAny_pyNext_tuple_item st (show s.heap.IsTuple a its.toArray from p) (x := u) (by simpa using hu) fun h' st' sb => ?_
  have I1 : Inv X pins σ H { s with heap := h' } := I.turned (t' := s.toks) (fun b o hb e => (sb.2 b hb).trans e) f0 f1 f3 f4 f5
  obtain ⟨o, e, c, d⟩ := id st'
  exact ⟨u, rfl, b6l (s := { s with heap := h' }) e c d (by decide) ⟨x, H, I1, ru, ⟨rfl, fun ys hy => by rw [I.tuple_inj hy hq]; exact hx⟩, st', fun b hb => (hf b hb).1⟩⟩
 done := by
  intro X hP hw hK hc i pins s σ H E I hf st hg
  subst hP hw hK
  obtain ⟨xs, hq, hx⟩ := hg
  obtain ⟨its, rv, p, hz⟩ := I.tuple hq
  obtain ⟨f0, f1, f2, f3, f4, f5⟩ := hf it (by simp)
  have hl := rv.length
  exact wpAny_pyNext_tuple_end (I.ok.hd hc) st (show s.heap.IsTuple a its.toArray from p) (by simp; lia) fun h' eb => ⟨rfl, I.turned (t' := s.toks) (fun b o hb e => eb b o hb e) f0 f1 f3 f4 f5⟩
 self := fun _ _ _ _ _ st h => wpAny_pyIter_tupleiter st h
theorem b2c {P : Program} {w : World} {K : PySem.W.Frag} {tg : Expr} (it : Addr) (lo : Int) (n : Nat) : Turn P w K tg (Itr lo n) [it] it (fun i h => IsRangeIter h it (lo + (i : Nat) * 1) ((n : Int) - (i : Nat)) 1) where
 mem := by simp
 obj := fun i h st b hb => by
  have e : b = it := by simpa using hb
  subst e
  exact ⟨_, st, fun v z => by
   have z' : Data.fields _ = Data.cell v := z
   cases z'⟩
 keep := fun i h h' st k => k it (by simp) _ st
 item := by
  intro X hP hw hK hc i pins s σ H E I hf st hg
  subst hP hw hK
  obtain ⟨f0, f1, f2, f3, f4, f5⟩ := hf it (by simp)
  have W := Walks.range (prog := X.prog) (w := X.w) (I.ok.hd hc) it lo 1 n
  refine W.item i s _ _ hg st fun v h' tk hv st' kk => ?_
  obtain ⟨t, rfl⟩ := hv
  have I1 : Inv X pins σ H { s with heap := h', toks := tk } := I.turned (fun b o hb e => kk b o (by simpa using hb) e) f0 f1 f3 f4 f5
  refine ⟨_, rfl, b6l (s := { s with heap := h', toks := tk }) (n := "range_iterator") st' rfl rfl (by decide) ⟨.int (lo + i), H, I1, ⟨t, ?_⟩, ⟨rfl, rfl⟩, st', fun b hb => (hf b hb).1⟩⟩
  rw [Int.mul_one]
 done := by
  intro X hP hw hK hc i pins s σ H E I hf st hg
  subst hP hw hK
  obtain ⟨f0, f1, f2, f3, f4, f5⟩ := hf it (by simp)
  exact wpAny_pyNext_range_end (I.ok.hd hc) st (by have : n ≤ i := hg; lia) fun h' eb => ⟨rfl, I.turned (t' := s.toks) (fun b o hb e => eb b o hb e) f0 f1 f3 f4 f5⟩
 self := fun _ _ _ _ _ st h => wpAny_pyIter_rangeiter st h
section
variable {X : Cx} {tg : Expr}
theorem b5y {pins : List (Addr × Obj)} {σ : St} {H : Hp} {s : Shared} {R : It → Hp → Prop} {E : Value → Shared → Prop} {lo hi : Int} {t u v : Tok} {tk : Nat} (I : Inv X pins σ H s) (h1 : -(2 ^ 62) ≤ lo) (h2 : lo < 2 ^ 62) (h3 : -(2 ^ 62) ≤ hi) (h4 : hi < 2 ^ 62)
  (q : R (Itr lo (hi - lo).toNat) H) : wpAny (model X.prog X.w) X.A (pyIter (.ref s.heap.objs.size)) (PIE X pins σ tg R) E { s with heap := s.heap.push { cls := .type "range", data := .fields #[.int lo t, .int hi u, .int 1 v] }, toks := tk } := by
 refine wpAny_pyIter_range (IsRange.new ..) (small_one h1 h2 h3 h4) ?_
 have I1 : Inv X pins σ H { s with heap := s.heap.push { cls := .type "range", data := .fields #[.int lo t, .int hi u, .int 1 v] }, toks := tk } := I.kept fun b o e => Heap.get?_push_of_some _ e
 refine ⟨(s.heap.push { cls := .type "range", data := .fields #[.int lo t, .int hi u, .int 1 v] }).objs.size, [(s.heap.push { cls := .type "range", data := .fields #[.int lo t, .int hi u, .int 1 v] }).objs.size], _, _, H, rfl,
  I1.kept (t' := tk) fun b o e => Heap.get?_push_of_some _ e, b2c _ lo (hi - lo).toNat, ?_, fun b hb => ?_, q⟩
 ·have e1 : lo + ((0 : Nat) : Int) * 1 = lo := by simp
  have e2 : (((hi - lo).toNat : Nat) : Int) - ((0 : Nat) : Int) = Builtin.Range.rangeSize lo hi 1 := by rw [rangeSize_one]; split <;> lia
  show IsRangeIter _ _ (lo + ((0 : Nat) : Int) * 1) ((((hi - lo).toNat : Nat) : Int) - ((0 : Nat) : Int)) 1
  rw [e1, e2]
  exact Heap.get?_push_size _ rfl
 ·have e : b = (s.heap.push { cls := .type "range", data := .fields #[.int lo t, .int hi u, .int 1 v] }).objs.size := by simpa using hb
  subst e
  exact I1.fpOk (Nat.le_refl _) (I1.hok.fresh (Nat.le_refl _))
noncomputable def c1Y (ta : TA) : TI := fun σ H R => ta σ H fun vs H1 => ∃ j : Int, vs = [.int j] ∧ -(2 ^ 62) ≤ j ∧ j < 2 ^ 62 ∧ R (Itr 0 j.toNat) H1
theorem b3z {a : Expr} {ta : TA} {p pos : Pos} (hg : Gl X "range") (hm : X.mg "range" = none) (ha : PA X [a] ta) (hs : starEach [a] X.env = [(false, eval a X.env)] := by rfl) : PI X tg (.Call (.Name "range" p) [a] [] pos) (c1Y ta) := by
 intro pins s σ H R I h
 refine Call_ (a3j I hg hm boot_range (PyProof.Rows.callWith_type1 (thn (ha pos pins s σ H _ I h) fun us s1 ⟨vs, H1, I1, r1, q1⟩ => ?_) hs rfl))
 obtain ⟨j, e, q1, q2, q⟩ := q1
 subst e
 cases r1 with
 | cons r rr =>
   cases rr
   obtain ⟨t, rfl⟩ := r
   exact call_range_1 (b5y I1 (by lia) (by lia) q1 q2 (by simpa using q))
noncomputable def tFor (wi : TI) (g : TG) (tb : TS) : TS := fun D σ H => wi σ H fun J H1 => ∃ W : Nat → Nat → St → Hp → Prop, (∃ m, W 0 m σ H1) ∧ ∀ i m σ H, W i m σ H →
 (J.stop i H ∧ D.nx σ H) ∨ (J.go i H ∧ ∃ N : St → Hp → Prop, (∀ σ' H', N σ' H' → ∃ m', m' < m ∧ W (i + 1) m' σ' H') ∧ ∀ x H', J.yld i H x H' → g x σ H' fun σ2 H2 => tb { D with nx := N, ct := N, bk := D.nx } σ2 H2)
noncomputable def a6I (fp : List Addr) (h : Heap) : List (Addr × Obj) := fp.filterMap fun b => (h.get? b).map fun o => (b, o)
theorem a3E {fp : List Addr} {h : Heap} {b : Addr} {o : Obj} (hb : b ∈ fp) (e : h.get? b = some o) : (b, o) ∈ a6I fp h := List.mem_filterMap.mpr ⟨b, hb, by rw [e]; rfl⟩
theorem b3K {fp : List Addr} {h : Heap} {p : Addr × Obj} (hp : p ∈ a6I fp h) : p.1 ∈ fp ∧ h.get? p.1 = some p.2 := by
 obtain ⟨b, hb, e⟩ := List.mem_filterMap.mp hp
 cases q : h.get? b with
 | none => rw [q] at e; cases e
 | some o =>
   rw [q] at e
   have e' : (b, o) = p := Option.some.inj e
   subst e'
   exact ⟨hb, q⟩
theorem Inv.pinned {pins : List (Addr × Obj)} {σ : St} {H : Hp} {s : Shared} {fp : List Addr} (I : Inv X pins σ H s) (hf : ∀ b ∈ fp, FpOk X pins H b) (ho : ∀ b ∈ fp, ∃ o, s.heap.get? b = some o ∧ ∀ v, o.data ≠ .cell v) : Inv X (pins ++ a6I fp s.heap) σ H s :=
 I.pins_of fun p hp => (List.mem_append.mp hp).elim (fun z => I.pin p (List.mem_append_right _ z)) fun z => by
  obtain ⟨hb, e⟩ := b3K z
  obtain ⟨f0, f1, f2, _⟩ := hf p.1 hb
  obtain ⟨o, e', d⟩ := ho p.1 hb
  rw [e] at e'; cases e'
  exact ⟨e, f0, f1, f2, d⟩
theorem Inv.unpinned {pins pl : List (Addr × Obj)} {σ : St} {H : Hp} {s : Shared} (I : Inv X (pins ++ pl) σ H s) : Inv X pins σ H s := I.pins_of fun p hp => I.pin p (List.mem_append_right _ (List.mem_append_left _ hp))
theorem c0o {iter : Expr} {body : List Stmt} {wi : TI} {g : TG} {tb : TS} {pos : Pos} (hp : PassesOwn (model X.prog X.w) X.A X.env X.xe) (hc : X.calm = true) (hi : PI X tg iter wi) (hg : PG X tg g) (hb : PSs X body tb)
  (hs : ∀ x, foldedSetIterable iter X.env x = pure x := by intro _; rfl) : PS X (.For tg iter body [] pos) (tFor wi g tb) := by
 intro pins s σ H D I h
 refine wpAny_For (thn (hi pins s σ H _ I h) fun v s1 h1 => thn h1 fun itv s2 h2 => ?_) hs
 obtain ⟨it, fp, tn, J, H2, e, I2, T, st2, f2, W, ⟨m0, w0⟩, turn⟩ := h2
 subst e
 -- what stays true of the iterator's objects through the loop
 have stat : ∀ {H' : Hp}, (∀ b ∈ fp, H' b = none) → ∀ b ∈ fp, FpOk X pins H' b := fun hn b hb => ⟨hn b hb, (f2 b hb).2⟩
 refine codeAny_forLoop_any (fun n s' => ∃ i σ' H', Inv X pins σ' H' s' ∧ tn i s'.heap ∧ (∀ b ∈ fp, H' b = none) ∧ W i n σ' H') ?_ m0 ⟨0, σ, H2, I2, st2, fun b hb => (f2 b hb).1, w0⟩
 rintro n s3 ⟨i, σ3, H3, I3, st3, fr3, w3⟩
 rcases turn i n σ3 H3 w3 with ⟨stop, qn⟩ | ⟨go, N, hN, step⟩
 ·refine wpAny_passesOwn hp (thn (T.done X rfl rfl rfl hc i pins s3 σ3 H3 X.xe I3 (stat fr3) st3 stop) fun r s4 ⟨hr, I4⟩ => ?_)
  subst hr
  exact wpAny_execs_nil ⟨σ3, H3, I4, qn⟩
 ·refine wpAny_passesOwn hp (thn (T.item X rfl rfl rfl hc i pins s3 σ3 H3 X.xe I3 (stat fr3) st3 go) fun r s4 ⟨u, hr, h4⟩ => ?_)
  subst hr
  refine wpAny_passesOwn hp (thn h4 fun _ s5 ⟨x, H5, I5, r5, y5, st5, fr5⟩ => ?_)
  have I5' := I5.pinned (stat fr5) (T.obj _ _ st5)
  refine wpAny_passesOwn hp (thn (hg _ s5 σ3 H5 x u _ I5' r5 (step x H5 y5)) fun _ s6 ⟨σ6, H6, I6, q6⟩ => ?_)
  refine wpAny_passesOwn hp (thn (hb _ s6 σ6 H6 _ I6 q6) fun f s7 q7 => ?_)
  have again : ∀ {σ7 : St} {H7 : Hp}, Inv X (pins ++ a6I fp s5.heap) σ7 H7 s7 → N σ7 H7 → ∃ m, m < n ∧ ∃ i σ' H', Inv X pins σ' H' s7 ∧ tn i s7.heap ∧ (∀ b ∈ fp, H' b = none) ∧ W i m σ' H' := fun {σ7 H7} I7 n7 => by
   obtain ⟨m', hm, w7⟩ := hN σ7 H7 n7
   refine ⟨m', hm, i + 1, σ7, H7, I7.unpinned, T.keep _ _ _ st5 fun b hb o e => (I7.pin (b, o) (List.mem_append_right _ (List.mem_append_right _ (a3E hb e)))).1, fun b hb => ?_, w7⟩
   obtain ⟨o, e, d⟩ := T.obj _ _ st5 b hb
   exact (I7.pin (b, o) (List.mem_append_right _ (List.mem_append_right _ (a3E hb e)))).2.1
  cases f with
  | next => obtain ⟨σ7, H7, I7, n7⟩ := q7; exact again I7 n7
  | cont => obtain ⟨σ7, H7, I7, n7⟩ := q7; exact again I7 n7
  | brk => obtain ⟨σ7, H7, I7, q7⟩ := q7; exact ⟨σ7, H7, I7.unpinned, q7⟩
  | ret v => obtain ⟨x7, σ7, H7, I7, r7, q7⟩ := q7; exact ⟨x7, σ7, H7, I7.unpinned, r7, q7⟩
end
noncomputable abbrev R2 := V → V → Hp → VK → Prop
noncomputable def OpR (X : Cx) (f : Value → Value → Sem Value) (r : R2) : Prop :=
 ∀ (pins : List (Addr × Obj)) (s : Shared) (σ : St) (H : Hp) (x y : V) (v u : Value) (Q : VK), Inv X pins σ H s → RelV x v → RelV y u → r x y H Q →
   wpAny (model X.prog X.w) X.A (f v u) (EP X pins σ Q) X.xe s
noncomputable def UnR (X : Cx) (f : Value → Sem Value) (r : V → Hp → VK → Prop) : Prop :=
 ∀ (pins : List (Addr × Obj)) (s : Shared) (σ : St) (H : Hp) (x : V) (v : Value) (Q : VK), Inv X pins σ H s → RelV x v → r x H Q →
   wpAny (model X.prog X.w) X.A (f v) (EP X pins σ Q) X.xe s
noncomputable def a6z (X : Cx) (f : Value) (r : List V → Hp → VK → Prop) : Prop :=
 ∀ (pins : List (Addr × Obj)) (s : Shared) (σ : St) (H : Hp) (xs : List V) (us : List Value) (Q : VK), Inv X pins σ H s → Vals xs us → r xs H Q →
   wpAny (model X.prog X.w) X.A (call f us) (EP X pins σ Q) X.xe s
noncomputable def TruR (X : Cx) (r : V → Hp → (Bool → Hp → Prop) → Prop) : Prop :=
 ∀ (pins : List (Addr × Obj)) (s : Shared) (σ : St) (H : Hp) (x : V) (v : Value) (Q : Bool → Hp → Prop), Inv X pins σ H s → RelV x v → r x H Q →
   wpAny (model X.prog X.w) X.A (truthy v) (TP X pins σ Q) X.xe s
noncomputable def tOp (r : R2) (ta tb : TE) : TE := fun σ H Q => ta σ H fun x H1 => tb σ H1 fun y H2 => r x y H2 Q
noncomputable def tUn (r : V → Hp → VK → Prop) (ta : TE) : TE := fun σ H Q => ta σ H fun x H1 => r x H1 Q
noncomputable def rI (C : Int → Int → Prop) (g : Int → Int → V) : R2 := fun x y H Q => ∃ i j, x = .int i ∧ y = .int j ∧ C i j ∧ Q (g i j) H
noncomputable def rI0 (g : Int → Int → V) : R2 := fun x y H Q => ∃ i j, x = .int i ∧ y = .int j ∧ Q (g i j) H
noncomputable def rU (g : Int → V) : V → Hp → VK → Prop := fun x H Q => ∃ i, x = .int i ∧ Q (g i) H
section
variable {X : Cx} {a b c : Expr} {ta tb tc : TE} {pos : Pos}
theorem binT (ha : PE X a ta) (hb : PE X b tb) {pins : List (Addr × Obj)} {s : Shared} {σ : St} {H : Hp} {R : V → V → Hp → Prop} (I : Inv X pins σ H s)
  (h : ta σ H fun x H1 => tb σ H1 fun y H2 => R x y H2) {Q : Value → Shared → Prop} {f : Value → Value → Sem Value}
  (hf : ∀ v u s2 x y H2, Inv X pins σ H2 s2 → RelV x v → RelV y u → R x y H2 → wpAny (model X.prog X.w) X.A (f v u) Q X.xe s2) :
  wpAny (model X.prog X.w) X.A (eval a X.env) (fun v s₁ => wpAny (model X.prog X.w) X.A (eval b X.env) (fun u s₂ => wpAny (model X.prog X.w) X.A (f v u) Q X.xe s₂) X.xe s₁) X.xe s := by
 refine thn (ha pins s σ H _ I h) fun v s1 ⟨x, H1, I1, r1, q1⟩ => ?_
 refine thn (hb pins s1 σ H1 _ I1 q1) fun u s2 ⟨y, H2, I2, r2, q2⟩ => ?_
 exact hf v u s2 x y H2 I2 r1 r2 q2
theorem c1L {op : Operator} {r : R2} (ho : OpR X (binaryOp op) r) (ha : PE X a ta) (hb : PE X b tb) : PE X (.BinOp a op b pos) (tOp r ta tb) := by
 intro pins s σ H Q I h
 exact wpAny_BinOp (binT ha hb I h fun v u s2 x y H2 I2 rx ry q => ho pins s2 σ H2 x y v u Q I2 rx ry q)
theorem c1J {op : UnaryOp} {r : V → Hp → VK → Prop} (ho : UnR X (unaryOp op) r) (ha : PE X a ta) : PE X (.UnaryOp op a pos) (tUn r ta) := by
 intro pins s σ H Q I h
 exact UnaryOp_ (thn (ha pins s σ H _ I h) fun v s1 ⟨x, H1, I1, r1, q1⟩ => ho pins s1 σ H1 x v Q I1 r1 q1)
theorem opI {f : Value → Value → Sem Value} {C : Int → Int → Prop} {g : Int → Int → Int}
  (rule : ∀ (i j : Int) (t u : Tok) (s : Shared) (Q : Value → Shared → Prop) (E : Value → Shared → Prop), C i j → Q (.int (g i j) s.toks) { s with toks := s.toks + 1 } → wpAny (model X.prog X.w) X.A (f (.int i t) (.int j u)) Q E s) :
  OpR X f (rI C fun i j => .int (g i j)) := by
 intro pins s σ H x y v u Q I rx ry h
 obtain ⟨i, j, rfl, rfl, hc, q⟩ := h
 obtain ⟨t, rfl⟩ := rx
 obtain ⟨t', rfl⟩ := ry
 exact rule i j t t' s _ _ hc ⟨.int (g i j), H, I.tok _, ⟨_, rfl⟩, q⟩
theorem opI0 {f : Value → Value → Sem Value} {g : Int → Int → Int}
  (rule : ∀ (i j : Int) (t u : Tok) (s : Shared) (Q : Value → Shared → Prop) (E : Value → Shared → Prop), Q (.int (g i j) s.toks) { s with toks := s.toks + 1 } → wpAny (model X.prog X.w) X.A (f (.int i t) (.int j u)) Q E s) :
  OpR X f (rI0 fun i j => .int (g i j)) := by
 intro pins s σ H x y v u Q I rx ry h
 obtain ⟨i, j, rfl, rfl, q⟩ := h
 obtain ⟨t, rfl⟩ := rx
 obtain ⟨t', rfl⟩ := ry
 exact rule i j t t' s _ _ ⟨.int (g i j), H, I.tok _, ⟨_, rfl⟩, q⟩
theorem opB0 {f : Value → Value → Sem Value} {g : Int → Int → Bool}
  (rule : ∀ (i j : Int) (t u : Tok) (s : Shared) (Q : Value → Shared → Prop) (E : Value → Shared → Prop), Q (.bool (g i j)) s → wpAny (model X.prog X.w) X.A (f (.int i t) (.int j u)) Q E s) :
  OpR X f (rI0 fun i j => .bl (g i j)) := by
 intro pins s σ H x y v u Q I rx ry h
 obtain ⟨i, j, rfl, rfl, q⟩ := h
 obtain ⟨t, rfl⟩ := rx
 obtain ⟨t', rfl⟩ := ry
 exact rule i j t t' s _ _ ⟨.bl (g i j), H, I, rfl, q⟩
noncomputable def CPow (i j : Int) : Prop := 0 ≤ j ∧ j ≤ 1000000 ∧ i.natAbs < 2 ^ 64
noncomputable def CMul (i j : Int) : Prop := (-(2 ^ 64) < i ∧ i < 2 ^ 64) ∨ (-(2 ^ 64) < j ∧ j < 2 ^ 64)
theorem CMul.ok {i j : Int} (h : CMul i j) : IntMulOk i j := by
 rcases h with ⟨h1, h2⟩ | ⟨h1, h2⟩
 ·exact .of_left (intBits_le_64 h1 h2)
 ·exact .of_right (intBits_le_64 h1 h2)
theorem c0C : OpR X (binaryOp .Add) (rI0 fun i j => .int (i + j)) := opI0 fun _ _ _ _ _ _ _ q => add_int q
theorem c0w : OpR X (binaryOp .Sub) (rI0 fun i j => .int (i - j)) := opI0 fun _ _ _ _ _ _ _ q => sub_int q
theorem c0z : OpR X (binaryOp .Mult) (rI CMul fun i j => .int (i * j)) := opI fun _ _ _ _ _ _ _ hc q => mul_int q hc.ok
theorem c0A : OpR X (binaryOp .Mod) (rI (fun _ j => 0 < j) fun i j => .int (i % j)) := opI fun i j _ _ _ _ _ hc q => by
 have h1 : (0 : Int) < j := hc
 exact mod_int' (by lia) (by rw [Int.fmod_eq_emod_of_nonneg i (by lia)]; exact q)
theorem c0y : OpR X (binaryOp .Pow) (rI CPow fun i j => .int (i ^ j.toNat)) := opI fun _ _ _ _ _ _ _ hc q => pow_int_small hc.1 hc.2.1 hc.2.2 q
theorem unI {f : Value → Sem Value} {g : Int → Int}
  (rule : ∀ (i : Int) (t : Tok) (s : Shared) (Q : Value → Shared → Prop) (E : Value → Shared → Prop), Q (.int (g i) s.toks) { s with toks := s.toks + 1 } → wpAny (model X.prog X.w) X.A (f (.int i t)) Q E s) :
  UnR X f (rU fun i => .int (g i)) := by
 intro pins s σ H x v Q I rx h
 obtain ⟨i, rfl, q⟩ := h
 obtain ⟨t, rfl⟩ := rx
 exact rule i t s _ _ ⟨.int (g i), H, I.tok _, ⟨_, rfl⟩, q⟩
theorem b9x : UnR X (unaryOp .USub) (rU fun i => .int (-i)) := unI fun _ _ _ _ _ q => neg_int q
end
section
variable {X : Cx} {a b c : Expr} {ta tb tc : TE} {pos : Pos}
theorem c1Q : OpR X (compareOp .Lt) (rI0 fun i j => .bl (decide (i < j))) := opB0 fun _ _ _ _ _ _ _ q => lt_int q
theorem c1R : OpR X (compareOp .LtE) (rI0 fun i j => .bl (decide (i ≤ j))) := opB0 fun _ _ _ _ _ _ _ q => le_int q
theorem c1S : OpR X (compareOp .Gt) (rI0 fun i j => .bl (decide (j < i))) := opB0 fun _ _ _ _ _ _ _ q => gt_int q
theorem c1T : OpR X (compareOp .GtE) (rI0 fun i j => .bl (decide (j ≤ i))) := opB0 fun _ _ _ _ _ _ _ q => ge_int q
theorem a1C (b : Expr) {op : CmpOp} (h : op ≠ .In := by decide) (h2 : op ≠ .NotIn := by decide) : behindInMarks op b = false := by
 have e1 : (op == CmpOp.In) = false := by cases op <;> first | rfl | exact absurd rfl h
 have e2 : (op == CmpOp.NotIn) = false := by cases op <;> first | rfl | exact absurd rfl h2
 cases b <;> simp [behindInMarks, e1, e2]
theorem b8m {op : CmpOp} {r : R2} (ho : OpR X (compareOp op) r) (ha : PE X a ta) (hb : PE X b tb) (hm : behindInMarks op b = false) : PE X (.Compare a [op] [b] pos) (tOp r ta tb) := by
 intro pins s σ H Q I h
 exact wpAny_Compare1 (binT ha hb I h fun v u s2 x y H2 I2 rx ry q => ho pins s2 σ H2 x y v u Q I2 rx ry q) hm
noncomputable def b9H (t : TE) : TT := fun σ H Q => t σ H fun x H' => ∃ k, x = .bl k ∧ Q k H'
theorem b8d {op : CmpOp} {r : R2} (ho : OpR X (compareOp op) r) (ha : PE X a ta) (hb : PE X b tb) (hm : behindInMarks op b = false) : PT X (.Compare a [op] [b] pos) (b9H (tOp r ta tb)) := by
 intro pins s σ H Q I h
 refine wpAny_isTrue_Compare1 (thn (ha pins s σ H _ I h) fun v s1 ⟨x, H1, I1, r1, q1⟩ => thn (hb pins s1 σ H1 _ I1 q1) fun u s2 ⟨y, H2, I2, r2, q2⟩ =>
  thn (ho pins s2 σ H2 x y v u _ I2 r1 r2 q2) fun c s3 ⟨z, H3, I3, r3, k, e, q3⟩ => ?_) hm
 subst e
 cases r3
 exact wpAny_truthy_bool ⟨H3, I3, q3⟩
noncomputable def b3e (r r' : R2) (ta tb tc : TE) : TE := fun σ H Q => ta σ H fun x H1 => tb σ H1 fun y H2 => r x y H2 fun z H3 => ∃ k, z = .bl k ∧
 (if k = true then tc σ H3 fun w' H4 => r' y w' H4 Q else Q (.bl false) H3)
theorem b5I {op op' : CmpOp} {r r' : R2} (ho : OpR X (compareOp op) r) (ho' : OpR X (compareOp op') r') (ha : PE X a ta) (hb : PE X b tb) (hc : PE X c tc)
  (hm : lastMarks [op, op'] [b, c] = false := by with_unfolding_all rfl) : PE X (.Compare a [op, op'] [b, c] pos) (b3e r r' ta tb tc) := by
 intro pins s σ H Q I h
 refine Compare_chain (thn (ha pins s σ H _ I h) fun v s1 ⟨x, H1, I1, r1, q1⟩ => chain_link (thn (hb pins s1 σ H1 _ I1 q1) fun u s2 ⟨y, H2, I2, r2, q2⟩ =>
  thn (ho pins s2 σ H2 x y v u _ I2 r1 r2 q2) fun d s3 ⟨z, H3, I3, r3, k, e, q3⟩ => ?_)) hm
 subst e
 cases r3
 refine wpAny_truthy_bool ?_
 cases k with
 | false => exact ite_ff ⟨.bl false, H3, I3, rfl, q3⟩
 | true => exact ite_tt (chain_last (thn (hc pins s3 σ H3 _ I3 q3) fun w' s4 ⟨z', H4, I4, r4, q4⟩ => ho' pins s4 σ H4 y z' u w' Q I4 r2 r4 q4))
theorem b5C {op op' : CmpOp} {r r' : R2} (ho : OpR X (compareOp op) r) (ho' : OpR X (compareOp op') r') (ha : PE X a ta) (hb : PE X b tb) (hc : PE X c tc)
  (hm : lastMarks [op, op'] [b, c] = false := by with_unfolding_all rfl) : PT X (.Compare a [op, op'] [b, c] pos) (b9H (b3e r r' ta tb tc)) := by
 intro pins s σ H Q I h
 refine isTrue_chain (thn (ha pins s σ H _ I h) fun v s1 ⟨x, H1, I1, r1, q1⟩ => test_link (thn (hb pins s1 σ H1 _ I1 q1) fun u s2 ⟨y, H2, I2, r2, q2⟩ =>
  thn (ho pins s2 σ H2 x y v u _ I2 r1 r2 q2) fun d s3 ⟨z, H3, I3, r3, k, e, q3⟩ => ?_)) hm
 subst e
 cases r3
 refine wpAny_truthy_bool ?_
 cases k with
 | false =>
   obtain ⟨k', e', q'⟩ := q3
   cases e'
   exact ite_ff ⟨H3, I3, q'⟩
 | true =>
   refine ite_tt (test_last (thn (hc pins s3 σ H3 _ I3 q3) fun w' s4 ⟨z', H4, I4, r4, q4⟩ => thn (ho' pins s4 σ H4 y z' u w' _ I4 r2 r4 q4) fun d' s5 ⟨z2, H5, I5, r5, k2, e2, q5⟩ => ?_))
   subst e2
   cases r5
   exact wpAny_truthy_bool ⟨H5, I5, q5⟩
noncomputable def TruV (K : PySem.W.Frag) (x : V) (H : Hp) (k : Bool) : Prop :=
 match x with
 | .non => k = false
 | .bl b => k = b
 | .int i => k = (i != 0)
 | .str y => y.length ≤ sizeLine ∧ k = ((y.length : Int) != 0)
 | .byt y => y.size ≤ sizeLine ∧ k = ((y.size : Int) != 0)
 | .ref p => (∃ xs, SqL K H p xs ∧ k = !xs.isEmpty) ∨ (∃ xs, SqT K H p xs ∧ k = !xs.isEmpty) ∨ ∃ kvs, H p = some (.dK kvs) ∧ k = !kvs.isEmpty
 | _ => False
theorem b2D {κ : Type} {kvs : List (κ × V)} {vs : List (κ × Value)} (r : KV kvs vs) : (!vs.isEmpty) = !kvs.isEmpty := by
 cases r <;> rfl
theorem a6O {xs : List V} {its : List Value} (r : Vals xs its) : (!its.toArray.isEmpty) = !xs.isEmpty := by
 cases r <;> simp
theorem a5O : (sizeLine : Nat) < 2 ^ 63 := by rw [sizeLine_eq]; decide
theorem b9C : TruR X (fun x H Q => ∃ k, TruV X.K x H k ∧ Q k H) := by
 intro pins s σ H x v Q I rx h
 obtain ⟨k, e, q⟩ := h
 have hl := a5O
 have hs : sizeLine = 16777216 := sizeLine_eq
 cases x with
 | non =>
   cases rx
   have e' : k = false := e
   subst e'
   exact truthy_none ⟨H, I, q⟩
 | bl b =>
   cases rx
   have e' : k = b := e
   subst e'
   exact wpAny_truthy_bool ⟨H, I, q⟩
 | int i =>
   obtain ⟨t, rfl⟩ := rx
   have e' : k = (i != 0) := e
   subst e'
   exact PySem.P.truthy_int ⟨H, I, q⟩
 | str y =>
   obtain ⟨t, rfl⟩ := rx
   obtain ⟨hy, e'⟩ : y.length ≤ sizeLine ∧ k = ((y.length : Int) != 0) := e
   subst e'
   exact PySem.P.truthy_str (by lia) ⟨H, I.tok _, q⟩
 | byt y =>
   obtain ⟨t, rfl⟩ := rx
   obtain ⟨hy, e'⟩ : y.size ≤ sizeLine ∧ k = ((y.size : Int) != 0) := e
   subst e'
   exact PySem.W.truthy_bytes (by lia) ⟨H, I.tok _, q⟩
 | ref p =>
   cases rx
   have e' : (∃ xs, SqL X.K H p xs ∧ k = !xs.isEmpty) ∨ (∃ xs, SqT X.K H p xs ∧ k = !xs.isEmpty) ∨ ∃ kvs, H p = some (.dK kvs) ∧ k = !kvs.isEmpty := e
   rcases e' with ⟨xs, hx, e'⟩ | ⟨xs, hx, e'⟩ | ⟨kvs, hx, e'⟩
   ·subst e'
    obtain ⟨its, r, pl, hz⟩ := I.list hx
    have hlen := r.length
    exact wpAny_truthy_list pl.isList (by simp only [List.size_toArray]; lia) ⟨H, I.tok _, by rw [a6O r]; exact q⟩
   ·subst e'
    obtain ⟨its, r, pl, hz⟩ := I.tuple hx
    have hlen := r.length
    exact truthy_tuple pl (by simp only [List.size_toArray]; lia) ⟨H, I.tok _, by rw [a6O r]; exact q⟩
   ·subst e'
    obtain ⟨hz, hS, vs, r, m⟩ : kvs.length ≤ sizeLine ∧ (p == sysModules) = false ∧ ∃ vs, KV kvs vs ∧ s.heap.DictOf (a0m X.prog X.w) p vs := I.hok p _ hx
    have hlen : kvs.length = vs.length := Paired.length r
    exact wpAny_truthy_dict hS m (by lia) ⟨H, I.tok _, by rw [b2D r]; exact q⟩
 | _ => exact (show False from e).elim
theorem b5B (ha : PE X a ta) (he : ∀ whole, isTrue a X.env whole = (do let v ← whole; standAt a.pos; holding [v] (truthy v))) :
  PT X a (fun σ H Q => ta σ H fun x H' => ∃ k, TruV X.K x H' k ∧ Q k H') := by
 intro pins s σ H Q I h
 exact isTrue_plain (thn (ha pins s σ H _ I h) fun v s1 ⟨x, H1, I1, r1, q1⟩ => b9C pins s1 σ H1 x v Q I1 r1 q1) (he _)
theorem b2s : OpR X (binaryOp .Add) (fun x y H Q => ∃ i j, x = .str i ∧ y = .str j ∧ i.length + j.length ≤ sizeLine ∧ Q (.str (i ++ j)) H) := by
 intro pins s σ H x y v u Q I rx ry h
 obtain ⟨i, j, rfl, rfl, hz, q⟩ := h
 obtain ⟨t, rfl⟩ := rx
 obtain ⟨t', rfl⟩ := ry
 exact add_str (fun t' tk => ⟨.str (i ++ j), H, I.tok _, ⟨_, rfl⟩, q⟩) hz
theorem a3n {x : V} {us : List Value} (r : Vals [x] us) : ∃ u, us = [u] ∧ RelV x u := by
 cases r with
 | cons r1 r2 => cases r2; exact ⟨_, rfl, r1⟩
theorem b6y : a6z X (.builtin "abs") (fun xs H Q => ∃ i, xs = [.int i] ∧ Q (.int (if i < 0 then -i else i)) H) := by
 intro pins s σ H xs us Q I r h
 obtain ⟨i, rfl, q⟩ := h
 obtain ⟨u, rfl, t, rfl⟩ := a3n r
 exact call_abs_int fun u tk => ⟨.int (if i < 0 then -i else i), H, I.tok _, ⟨_, rfl⟩, q⟩
theorem a9y : a6z X (.type "int") (fun xs H Q => (∃ i, xs = [.int i] ∧ Q (.int i) H) ∨ ∃ k, xs = [.bl k] ∧ Q (.int (if k then 1 else 0)) H) := by
 intro pins s σ H xs us Q I r h
 rcases h with ⟨i, rfl, q⟩ | ⟨k, rfl, q⟩
 ·obtain ⟨u, rfl, t, rfl⟩ := a3n r
  exact call_int_int ⟨.int i, H, I, ⟨_, rfl⟩, q⟩
 ·obtain ⟨u, rfl, r1⟩ := a3n r
  cases r1
  exact call_int_bool ⟨.int (if k then 1 else 0), H, I.tok _, ⟨_, rfl⟩, q⟩
end
section
variable {prog : Program} {w : World} {A : Around} {E : Value → Shared → Prop} {s : Shared} {K : PySem.W.Frag} {x dx C f : Addr} {mA : Str → Option Value} {name : Str} {v : Value}
end
theorem RelO.some_of {v : V} {o : Option Value} (r : RelO (some v) o) : ∃ u, o = some u ∧ RelV v u := by
 cases o with
 | none => exact (show False from r).elim
 | some u => exact ⟨u, rfl, r⟩
section
variable {P : Program} {w : World} {H H' : Hp} {h h' : Heap} {a C dx : Addr} {fs fs' : List (Str × V)}
end
section
variable {X : Cx} {pins : List (Addr × Obj)} {σ : St} {H : Hp} {s : Shared} {a C dx : Addr} {fs : List (Str × V)} {f : Str} {v : V} {A : Around} {E : Value → Shared → Prop}
end
section
variable {X : Cx} {o e value : Expr} {f : Str} {pos pos' tpos : Pos} {ta tv : TE}
end
section
variable {X : Cx} {pins : List (Addr × Obj)} {σ : St} {H : Hp} {s : Shared} {A : Around} {E : Value → Shared → Prop} {Q : Value → Shared → Prop} {c : Value} {b : Bool}
end
structure Room (k : Nat) (A : Around) : Prop where
 hd : A.handled = none
 dp : A.depth + 3 * k + 5 < recursionLimit
 un : A.units + 16 * k + 200 < cLine
theorem Room.mono {j k : Nat} {A : Around} (r : Room k A) (h : j ≤ k) : Room j A := ⟨r.hd, by have := r.dp; lia, by have := r.un; lia⟩
theorem Room.deeper {k : Nat} {A : Around} (r : Room (k + 1) A) (env : Env) : Room k (A.deeper env) :=
 ⟨r.hd, by have := r.dp; show A.depth + 1 + 3 * k + 5 < _; lia, by have := r.un; show A.units + 3 + 16 * k + 200 < _; lia⟩
theorem Room.depth {k : Nat} {A : Around} (r : Room k A) : A.depth < recursionLimit := by have := r.dp; lia
theorem Room.units {k : Nat} {A : Around} (r : Room k A) : A.units + 64 < cLine := by have := r.un; lia
noncomputable def tNil : TA := fun _ H Q => Q [] H
noncomputable def c1z (ta : TE) (tr : TA) : TA := fun σ H Q => ta σ H fun x H1 => tr σ H1 fun xs H2 => Q (x :: xs) H2
section
variable {X : Cx} {e : Expr} {es : List Expr} {te : TE} {t : TA} {pos : Pos}
theorem b6R : PA X [] tNil := fun _ _ _ _ H Q I h => Calls.spliced_nil ⟨[], H, I, .nil, h⟩
theorem b3F (ha : PE X e te) (hr : PA X es t) (hs : starEach (e :: es) X.env = (false, eval e X.env) :: starEach es X.env := by rfl) : PA X (e :: es) (c1z te t) := by
 intro pos pins s σ H Q I h
 rw [hs]
 show wpAny _ _ (spliced ((false, eval e X.env) :: backTo pos (starEach es X.env))) _ _ s
 refine Calls.spliced_cons (thn (ha pins s σ H _ I h) fun u s1 ⟨x, H1, I1, r1, q1⟩ => ?_)
 exact thn (hr pos pins s1 σ H1 _ I1 q1) fun us s2 ⟨xs, H2, I2, r2, q2⟩ => ⟨x :: xs, H2, I2, .cons r1 r2, q2⟩
noncomputable def tTup (t : TA) : TE := fun σ H Q => t σ H fun xs H1 => xs.length ≤ sizeLine ∧ ∀ p, H1 p = none → Q (.ref p) (upd H1 p (.tup xs))
noncomputable def tLst (t : TA) : TE := fun σ H Q => t σ H fun xs H1 => xs.length ≤ sizeLine ∧ ∀ p, H1 p = none → Q (.ref p) (upd H1 p (.lst xs))
theorem c0s {x1} (h : PA X es t) : PE X (.Tuple es x1 pos) (tTup t) := by
 intro pins s σ H Q I hq
 refine wpAny_Tuple_spliced (thn (h pos pins s σ H _ I hq) fun us s1 ⟨xs, H1, I1, r, z, q⟩ => ⟨by rw [← r.length]; exact z, ?_⟩)
 have hf : H1 s1.heap.objs.size = none := I1.hok.fresh (Nat.le_refl _)
 refine ⟨.ref s1.heap.objs.size, upd H1 s1.heap.objs.size (.tup xs), I1.laid (t' := s1.toks) (fun b u e => Heap.get?_push_of_some _ e) (Nat.le_refl _) ?_, rfl, q _ hf⟩
 exact ⟨z, us, r, ⟨_, Heap.get?_push_size _ rfl, rfl, rfl, _, rfl⟩⟩
theorem c0u (h : PA X es t) : PE X (.List es pos) (tLst t) := by
 intro pins s σ H Q I hq
 refine wpAny_List_spliced (thn (h pos pins s σ H _ I hq) fun us s1 ⟨xs, H1, I1, r, z, q⟩ => ⟨by rw [← r.length]; exact z, ?_⟩)
 have hf : H1 s1.heap.objs.size = none := I1.hok.fresh (Nat.le_refl _)
 refine ⟨.ref s1.heap.objs.size, upd H1 s1.heap.objs.size (.lst xs), I1.laid (t' := s1.toks) (fun b u e => Heap.get?_push_of_some _ e) (Nat.le_refl _) ?_, rfl, q _ hf⟩
 exact ⟨z, us, 0, r, Heap.get?_push_size _ rfl⟩
end
noncomputable abbrev Sp := List V → Hp → VK → XK → Prop
noncomputable abbrev CXT := List Env → Hp → Shared → XK → Value → Shared → Prop
structure Env0 (P : Program) (w : World) (K : PySem.W.Frag) (mg : Str → Option Value) (base : Heap) (A : Around) (outer : List Env) (s : Shared) (H : Hp) : Prop where
 frames : A.frames = some outer
 mod : Mod K mg base
 bs : ∀ b o, base.get? b = some o → s.heap.get? b = some o ∧ H b = none
 bsz : base.objs.size ≤ s.heap.objs.size
 funs : s.heap.FunFrames base outer
 frf : ∀ b ∈ frs outer, H b = none
 hok : HOk P w H s.heap
 bare : AllBare s.gens
noncomputable def CE (outer : List Env) (P : Program) (w : World) (H : Hp) (s : Shared) (Q : VK) (u : Value) (s' : Shared) : Prop :=
 ∃ v H', s'.os = s.os ∧ AllBare s'.gens ∧ Un (frs outer) [] H H' s.heap s'.heap ∧ HOk P w H' s'.heap ∧ RelV v u ∧ Q v H'
noncomputable def CR (CX : CXT) (outer : List Env) (P : Program) (w : World) (H : Hp) (s : Shared) (Q : VK) (E : XK) (r : Result) (s' : Shared) : Prop :=
 match r with
 | .ok (.ret u) => CE outer P w H s Q u s'
 | .ok _ => False
 | .error e => CX outer H s E e s'
structure FnOk (P : Program) (w : World) (K : PySem.W.Frag) (mg : Str → Option Value) (base : Heap) (CX : CXT) (k : Nat) (f : Addr) (fd : FuncData) (ps : List Str) (sp : Sp) : Prop where
 len : ∀ vs H Q E, sp vs H Q E → vs.length = ps.length
 run : ∀ (A : Around) (outer : List Env) (s : Shared) (H : Hp) (args : Args) (us : List Value) (vs : List V) (Q : VK) (E : XK), Room k A → Env0 P w K mg base A outer s H → BindsTo s fd args (ps.zip us) → Vals vs us → sp vs H Q E →
  codeAny (model P w) A (.call (.ref f) args) (CR CX outer P w H s Q E) s
theorem FnOk.mono {P : Program} {w : World} {K : PySem.W.Frag} {mg : Str → Option Value} {base : Heap} {CX : CXT} {j k : Nat} {f : Addr} {fd : FuncData} {ps : List Str} {sp : Sp} (F : FnOk P w K mg base CX j f fd ps sp) (h : j ≤ k) :
  FnOk P w K mg base CX k f fd ps sp := ⟨F.len, fun A outer s H args us vs Q E hr => F.run A outer s H args us vs Q E (hr.mono h)⟩
section
variable {X : Cx} {pins : List (Addr × Obj)} {σ : St} {H : Hp} {s s' : Shared}
theorem Inv.env0 (I : Inv X pins σ H s) : Env0 X.prog X.w X.K X.mg X.base X.A X.stack s H :=
 ⟨I.ok.frames, I.ok.mod, I.bs, Nat.le_trans I.ok.bsz I.sz, I.stack, I.stkFree, I.hok, I.bare⟩
theorem Inv.after {Q : VK} {u : Value} (I : Inv X pins σ H s) (h : CE X.stack X.prog X.w H s Q u s') : EP X pins σ Q u s' := by
 obtain ⟨v, H', os, bare, un, hok, r, q⟩ := h
 obtain ⟨hh, g, d, t, os'⟩ := s'
 obtain rfl : os' = s.os := os
 exact ⟨v, H', I.call (h' := hh) (g' := g) (d' := d) (t' := t) (ch := []) un hok bare (fun b z => absurd z (by simp)), r, q⟩
end
noncomputable def c1A (sp : Sp) (dvs : List V) (E : XK) (t : TA) : TE := fun σ H Q => t σ H fun vs H1 => sp (vs ++ dvs) H1 Q E
noncomputable def a1K (K : PySem.W.Frag) (fd : FuncData) (ps : List Str) (ds : List Value) : Prop :=
 ∀ (s : Shared) (us : List Value), K.In s.heap → (us ++ ds).length = ps.length → BindsTo s fd ⟨us, []⟩ (ps.zip (us ++ ds))
theorem a1K.all {K : PySem.W.Frag} {fd : FuncData} {ps : List Str} (h : ∀ us : List Value, us.length = ps.length → bindArgs fd ⟨us, []⟩ = pure (ps.zip us)) : a1K K fd ps [] := fun s us _ hl => by
 rw [List.append_nil] at hl ⊢
 exact .of_eq (h us hl)
noncomputable def b5g (CX : CXT) (X : Cx) (E : XK) : Prop := ∀ (pins : List (Addr × Obj)) (σ : St) (H : Hp) (s : Shared) (e : Value) (s' : Shared), Inv X pins σ H s → CX X.stack H s E e s' → X.xe e s'
section
variable {X : Cx} {CX : CXT} {k : Nat} {f C : Addr} {fd : FuncData} {ps : List Str} {sp : Sp} {dvs : List V} {ds : List Value} {E : XK} {x m : Str} {p pos apos : Pos} {e o : Expr} {es : List Expr} {ta : TE} {t : TA}
theorem c0d {pins : List (Addr × Obj)} {σ : St} {H : Hp} {s : Shared} {Q : VK} {us : List Value} {vs : List V} (F : FnOk X.prog X.w X.K X.mg X.base CX k f fd ps sp) (hr : Room k X.A) (hb : a1K X.K fd ps ds) (hd : Vals dvs ds) (hx : b5g CX X E)
  (I : Inv X pins σ H s) (r : Vals vs us) (h : sp (vs ++ dvs) H Q E) : wpAny (model X.prog X.w) X.A (call (.ref f) us) (EP X pins σ Q) X.xe s := by
 have r2 : Vals (vs ++ dvs) (us ++ ds) := r.append hd
 have hl : (us ++ ds).length = ps.length := by rw [← r2.length]; exact F.len _ _ _ _ h
 refine wpAny_call (codeAny_mono (F.run X.A X.stack s H ⟨us, []⟩ (us ++ ds) (vs ++ dvs) Q E hr I.env0 (hb s us I.kIn hl) r2 h) fun r s' hq => ?_)
 cases r with
 | error e => exact hx pins σ H s e s' I hq
 | ok fl =>
   cases fl with
   | ret u => exact I.after hq
   | next => exact False.elim hq
   | brk => exact False.elim hq
   | cont => exact False.elim hq
theorem b8n (F : FnOk X.prog X.w X.K X.mg X.base CX k f fd ps sp) (hr : Room k X.A) (hg : Gl X x) (hm : X.mg x = some (.ref f)) (hk : PySem.W.keepIn X.K (.ref f) = true) (hb : a1K X.K fd ps ds) (hd : Vals dvs ds) (hx : b5g CX X E)
  (ha : PA X (e :: es) t) (hdb : (x == ("__debug__" : Str)) = false := by decide) (he : starEach (e :: es) X.env = (false, eval e X.env) :: starEach es X.env := by rfl) (hpl : (backTo pos (starEach es X.env)).any (·.1) = false := by rfl) :
  PE X (.Call (.Name x p) (e :: es) [] pos) (c1A sp dvs E t) := by
 intro pins s σ H Q I h
 refine wpAny_Call_Name_kw (b3R I hg hm ?_ hdb)
 refine PySem.W.callWith_K (h₀ := X.base) I.ok.mod.kin hk (thn (ha pos pins s σ H _ I h) fun us s1 ⟨vs, H1, I1, r, q⟩ => ⟨I1.kIn, ?_⟩) he hpl
 exact c0d F hr hb hd hx I1 r q
end
section
variable {X : Cx} {CX : CXT} {k : Nat} {f C : Addr} {fd : FuncData} {ps ks : List Str} {sp : Sp} {E : XK} {x m : Str} {p pos apos kpos : Pos} {e o : Expr} {es : List Expr} {kws : List Keyword} {te ta : TE} {t tk : TA} {nm : Option Str}
variable {g : List Value → List Value → List Value} {gV : List V → List V → List V}
end
structure FnScope (N P : List Str) (sc : Scope) : Prop where
 kind : sc.kind = .function
 co : sc.isCoroutine = false
 gen : sc.isGenerator = false
 nd : N.Nodup
 pre : N.take P.length = P
 par : ∀ x ∈ P, sc.names.lookup x = some .local ∨ sc.names.lookup x = some .cell
 nofree : ∀ y ∈ sc.names, y.2 ≠ .free
theorem a9B {kindOf : Str → Option NameKind} {x : Str} : ∀ {binds : List (Str × Value)} {m : Str → Option Value}, (∀ v, (x, v) ∉ binds) → bindL kindOf binds m x = m x
 | [], _, _ => rfl
 | (n, v) :: r, m, h => by
   unfold bindL
   rw [a9B fun w hw => h w (List.mem_cons_of_mem _ hw)]
   split
   ·have : x ≠ n := by rintro rfl; exact h v List.mem_cons_self
    simp [this]
   ·rfl
theorem a9D {kindOf : Str → Option NameKind} {x : Str} : ∀ {binds : List (Str × Value)} {m : Str → Option Value}, (∀ v, (x, v) ∉ binds) → bindC kindOf binds m x = m x
 | [], _, _ => rfl
 | (n, v) :: r, m, h => by
   unfold bindC
   rw [a9D fun w hw => h w (List.mem_cons_of_mem _ hw)]
   split
   ·rfl
   ·have : x ≠ n := by rintro rfl; exact h v List.mem_cons_self
    simp [this]
theorem a9C {kindOf : Str → Option NameKind} {x : Str} {v : Value} : ∀ {P : List Str} {vs : List Value} {i : Nat} {m : Str → Option Value}, P.Nodup → P[i]? = some x → vs[i]? = some v → kindOf x = some .local →
  bindL kindOf (P.zip vs) m x = some v
 | [], _, _, _, _, h, _, _ => by simp at h
 | _ :: _, [], _, _, _, _, h, _ => by simp at h
 | p :: P, w :: vs, 0, m, nd, h1, h2, hk => by
   simp at h1 h2; subst h1; subst h2
   show bindL kindOf ((p, w) :: P.zip vs) m p = _
   unfold bindL
   rw [a9B fun v hv => (List.nodup_cons.mp nd).1 (List.of_mem_zip hv).1, if_pos hk]
   simp
 | p :: P, w :: vs, i + 1, m, nd, h1, h2, hk => by
   show bindL kindOf ((p, w) :: P.zip vs) m x = _
   unfold bindL
   exact a9C (i := i) (List.nodup_cons.mp nd).2 (by simpa using h1) (by simpa using h2) hk
theorem a9E {kindOf : Str → Option NameKind} {x : Str} {v : Value} : ∀ {P : List Str} {vs : List Value} {i : Nat} {m : Str → Option Value}, P.Nodup → P[i]? = some x → vs[i]? = some v → kindOf x ≠ some .local →
  bindC kindOf (P.zip vs) m x = some v
 | [], _, _, _, _, h, _, _ => by simp at h
 | _ :: _, [], _, _, _, _, h, _ => by simp at h
 | p :: P, w :: vs, 0, m, nd, h1, h2, hk => by
   simp at h1 h2; subst h1; subst h2
   show bindC kindOf ((p, w) :: P.zip vs) m p = _
   unfold bindC
   rw [a9D fun v hv => (List.nodup_cons.mp nd).1 (List.of_mem_zip hv).1, if_neg hk]
   simp
 | p :: P, w :: vs, i + 1, m, nd, h1, h2, hk => by
   show bindC kindOf ((p, w) :: P.zip vs) m x = _
   unfold bindC
   exact a9E (i := i) (List.nodup_cons.mp nd).2 (by simpa using h1) (by simpa using h2) hk
noncomputable def start (N : List Str) (vs : List V) : St := vs.map some ++ List.replicate (N.length - vs.length) none
noncomputable def cxOf (CX : CXT) (P : Program) (w : World) (K : PySem.W.Frag) (mg : Str → Option Value) (base : Heap) (N : List Str) (qual : Str) (scope : Scope) (f : Addr) (cd : Value) (A : Around) (outer : List Env) (s : Shared) (H : Hp) (E : XK) : Cx where
 prog := P
 w := w
 K := K
 mg := mg
 base := base
 A := A.deeper (envOfC qual scope s.heap.objs.size f cd)
 N := N
 s₀ := s
 H₀ := H
 env := envOfC qual scope s.heap.objs.size f cd
 outer := outer
 stack := envOfC qual scope s.heap.objs.size f cd :: outer
 ex := []
 calm := true
 fn := fun _ => true
 pn := []
 xe := fun e s' => wpAny (model P w) (A.deeper (envOfC qual scope s.heap.objs.size f cd)) (leaving (envOfC qual scope s.heap.objs.size f cd) e) (fun _ s'' => CX outer H s E e s'') (fun e' s'' => CX outer H s E e' s'') s'
theorem b1Q {sc : Scope} {n : Nat} {x : Str} (h : sc.names.lookup x = some .cell) : ∃ c, (cellsFrom n sc.names []).lookup x = some c := by
 have q := PySem.W.cellsFrom_some sc.names n [] (.inl h)
 exact Option.isSome_iff_exists.mp q
theorem b3Y {CX : CXT} {P : Program} {w : World} {K : PySem.W.Frag} {mg : Str → Option Value} {base : Heap} {N ps : List Str} {qual : Str} {scope : Scope} {f : Addr} {cd : Value} {A : Around} {outer : List Env} {s s1 : Shared} {H : Hp} {E : XK} {us : List Value} {vs : List V}
  (S : FnScope N ps scope) (hd : A.handled = none) (e0 : Env0 P w K mg base A outer s H) (hl : vs.length = ps.length) (r : Vals vs us)
  (x : InCallC s s.heap.objs.size (bindL (envOfC qual scope s.heap.objs.size f cd).kindOf (ps.zip us) fun _ => none) (cellsFrom (s.heap.objs.size + 1) scope.names []) (bindC (envOfC qual scope s.heap.objs.size f cd).kindOf (ps.zip us) fun _ => none) s1) :
  Inv (cxOf CX P w K mg base N qual scope f cd A outer s H E) [] (start N vs) H s1 := by
 have hpl : ps.length ≤ N.length := by have := congrArg List.length S.pre; rw [List.length_take] at this; lia
 obtain ⟨h1, tk, rfl, hk⟩ := x.done
 have noA : ∀ b : Addr, b ∉ (cxOf CX P w K mg base N qual scope f cd A outer s H E).ex := fun b z => absurd (show b ∈ ([] : List Addr) from z) (by simp)
 refine ⟨⟨e0.mod, S.kind, rfl, rfl, Nat.le_refl _, fun y z c h1 h2 => ?_, fun y hy => ?_, fun y c _ h => ?_, fun _ => hd, Around.frames_deeper e0.frames, .inr ⟨rfl, rfl⟩, fun b z => absurd z (noA b), e0.bs, e0.bsz, fun b _ _ => noA b, fun b z => absurd z (noA b), e0.funs, e0.frf⟩,
  rfl, e0.bare, Un.kept hk, ⟨_, x.toInCall.ns, fun i y v h1 h2 h3 => ?_⟩, fun y c h => ⟨_, x.cell y c h⟩, e0.hok.fresh (Nat.le_refl _), fun y c h => ?_, fun p hp => absurd (show p ∈ ([] : List (Addr × Obj)) from hp) (by simp), e0.hok.kept hk, ?_⟩
 ·exact name_of_addr x.apart (PySem.mem_of_lookup h1) (PySem.mem_of_lookup h2)
 ·have hy : scope.names.lookup y = some .cell ∨ scope.names.lookup y = some .free := hy
  rcases hy with hy | hy
  ·exact b1Q hy
  ·exact absurd rfl (S.nofree _ (PySem.mem_of_lookup hy))
 ·exact Nat.le_of_lt (x.above y c (PySem.mem_of_lookup h))
 ·have hi : i < vs.length := by
   unfold start at h2
   by_cases hi : i < vs.length
   ·exact hi
   ·rw [List.getElem?_append_right (by simpa using hi)] at h2
    rw [List.getElem?_replicate] at h2
    split at h2 <;> cases h2
  have ha : vs[i]? = some v := by
   unfold start at h2
   rw [List.getElem?_append_left (by simpa using hi), List.getElem?_map] at h2
   cases e : vs[i]? with
   | none => rw [e] at h2; cases h2
   | some a => rw [e] at h2; cases h2; rfl
  obtain ⟨u, hu, rv⟩ := r.get ha
  have hp : ps[i]? = some y := by
   rw [← S.pre, List.getElem?_take_of_lt (by lia)]; exact h1
  have ndP : ps.Nodup := by rw [← S.pre]; exact S.nd.sublist (List.take_sublist _ _)
  refine ⟨u, rv, ?_⟩
  rcases S.par y (List.mem_of_getElem? hp) with k | k
  ·exact .inl ⟨k, a9C ndP hp hu k⟩
  ·obtain ⟨c, e⟩ := b1Q (n := s.heap.objs.size + 1) k
   refine .inr ⟨.inl k, c, e, ?_⟩
   have q := x.cell y c e
   rw [a9E ndP hp hu (by show scope.names.lookup y ≠ _; rw [k]; decide)] at q
   exact q
 ·exact e0.hok.fresh (Nat.le_of_lt (x.above y c (PySem.mem_of_lookup h)))
 ·unfold start
  show _ = N.length
  rw [List.length_append, List.length_map, List.length_replicate]
  lia
theorem c2f {CX : CXT} {P : Program} {w : World} {K : PySem.W.Frag} {mg : Str → Option Value} {base : Heap} {k : Nat} {f : Addr} {name qual : Str} {params : Arguments} {body : List Stmt} {scope : Scope} {dV kV doc pm cdv ct oc : Value} {an od : Option Addr}
  {osl : Array (Option Value)} {N ps : List Str} {sp : Sp} (lk : K.lookup f = some ⟨oc, od, .func (PySem.W.fnOf name qual params body scope dV kV doc pm an cdv ct), osl⟩) (hcd : PySem.W.codeIn K cdv qual = true) (S : FnScope N ps scope)
  (len : ∀ vs H Q E, sp vs H Q E → vs.length = ps.length)
  (hbody : ∀ (A : Around) (outer : List Env) (s : Shared) (H : Hp) (vs : List V) (Q : VK) (E : XK), Room k (A.deeper (envOfC qual scope s.heap.objs.size f cdv)) → sp vs H Q E →
   ∃ t, PSs (cxOf CX P w K mg base N qual scope f cdv A outer s H E) body t ∧ t { nx := fun _ H' => Q .non H', rt := Q } (start N vs) H) :
  FnOk P w K mg base CX (k + 1) f (PySem.W.fnOf name qual params body scope dV kV doc pm an cdv ct) ps sp := by
 refine ⟨len, fun A outer s H args us vs Q E hr e0 hb r hsp => ?_⟩
 have hl := len _ _ _ _ hsp
 have KX : K.In s.heap := e0.mod.kin.keeps fun b o e => (e0.bs b o e).1
 have lim : s.heap.NoLimit := e0.mod.nolimit.keeps fun b o e => (e0.bs b o e).1
 have hkind : ∀ y ∈ ps.zip us, scope.names.lookup y.1 = some .local ∨ (scope.names.lookup y.1 = some .cell ∧ ((cellsFrom (s.heap.objs.size + 1) scope.names []).lookup y.1).isSome = true) := fun ⟨n, v⟩ hy => by
  rcases S.par n (List.of_mem_zip hy).1 with q | q
  ·exact .inl q
  ·exact .inr ⟨q, PySem.W.cellsFrom_some _ _ _ (.inl q)⟩
 refine codeAny_call_function hr.depth (KX _ _ lk) rfl S.co S.gen rfl (PySem.W.codeRec_of KX hcd) (hb _ _ _ _ ?_)
 refine wpAny_newFunctionEnv_cells S.kind hkind fun env he s1 x => ?_
 subst he
 refine ⟨lim.keeps x.toInCall.keep, codeAny_func ?_⟩
 obtain ⟨t, ht, hq⟩ := hbody A outer s H vs Q E (hr.deeper _) hsp
 have I : Inv (cxOf CX P w K mg base N qual scope f cdv A outer s H E) [] (start N vs) H s1 := b3Y S hr.hd e0 hl r x
 refine wpAny_mono (ht [] s1 (start N vs) H _ I hq) (fun fl s' hs => ?_) fun e s' hs => hs
 have fin : ∀ {σ' : St} {H' : Hp} {v : V} {u : Value}, Inv (cxOf CX P w K mg base N qual scope f cdv A outer s H E) [] σ' H' s' → RelV v u → Q v H' → CE outer P w H s Q u s' :=
  fun {σ' H' v u} J rv q => ⟨v, H', J.os, J.bare, J.base, J.hok, rv, q⟩
 cases fl with
 | ret u =>
   obtain ⟨v, σ', H', J, rv, q⟩ := hs
   exact fin J rv q
 | next =>
   obtain ⟨σ', H', J, q⟩ := hs
   exact fin (v := V.non) (u := Value.none) J rfl q
 | brk =>
   obtain ⟨_, _, _, q⟩ := hs
   exact False.elim q
 | cont =>
   obtain ⟨_, _, _, q⟩ := hs
   exact False.elim q
section
variable {X : Cx} {x : Str} {p pos : Pos} {e : Expr} {es : List Expr} {t : TA} {id T : String} {r : List V → Hp → VK → Prop}
noncomputable def tCB (r : List V → Hp → VK → Prop) (t : TA) : TE := fun σ H Q => t σ H fun vs H1 => r vs H1 Q
theorem b5J (hc : a6z X (.builtin id) r) (hg : Gl X x) (hm : X.mg x = none) (hv : bootBuiltins x = some (.builtin id)) (ha : PA X (e :: es) t) (hn : x ≠ "__name__" := by decide) (hdb : (x == ("__debug__" : Str)) = false := by decide)
  (he : starEach (e :: es) X.env = (false, eval e X.env) :: starEach es X.env := by rfl) (hpl : (backTo pos (starEach es X.env)).any (·.1) = false := by rfl) : PE X (.Call (.Name x p) (e :: es) [] pos) (tCB r t) := by
 intro pins s σ H Q I h
 refine wpAny_Call_Name_kw (a3j I hg hm hv ?_ hn hdb)
 exact PyProof.Rows.callWith_builtin1 (thn (ha pos pins s σ H _ I h) fun us s1 ⟨vs, H1, I1, r1, q1⟩ => hc pins s1 σ H1 vs us Q I1 r1 q1) he hpl
theorem b3E (hc : a6z X (.type T) r) (hg : Gl X x) (hm : X.mg x = none) (hv : bootBuiltins x = some (.type T)) (ha : PA X (e :: es) t) (hn : x ≠ "__name__" := by decide) (hdb : (x == ("__debug__" : Str)) = false := by decide)
  (he : starEach (e :: es) X.env = (false, eval e X.env) :: starEach es X.env := by rfl) (hpl : (backTo pos (starEach es X.env)).any (·.1) = false := by rfl) : PE X (.Call (.Name x p) (e :: es) [] pos) (tCB r t) := by
 intro pins s σ H Q I h
 refine wpAny_Call_Name_kw (a3j I hg hm hv ?_ hn hdb)
 exact PyProof.Rows.callWith_type1 (thn (ha pos pins s σ H _ I h) fun us s1 ⟨vs, H1, I1, r1, q1⟩ => hc pins s1 σ H1 vs us Q I1 r1 q1) he hpl
end
end L2
namespace HT
open PySem PyProof.Rows
section
open PySem.SeqAt
open PySem.AutoSeq1 (wpAny_loadPart')
open PySem.MeetsSeq PySem.MeetsSeq2 PySem.MeetsSeq3
end
section
variable {prog : Program} {w : World} {A : Around} {E : Value → Shared → Prop} {s : Shared}
theorem cat_tup {t b : Addr} {vs ws : List Value} {Q : Value → Shared → Prop} (ht : IsTup s.heap t vs.toArray) (hb : IsTup s.heap b ws.toArray) (hv : vs ≠ [])
  (h1 : ws = [] → Q (.ref t) s) (h2 : ws ≠ [] → Q (.ref s.heap.objs.size) { s with heap := s.heap.push { cls := .type "tuple", data := .seq (vs ++ ws).toArray } })
  (hsz : vs.length + ws.length ≤ sizeLine) : wpAny (model prog w) A (binaryOp .Add (.ref t) (.ref b)) Q E s := by
 obtain ⟨⟨cls, dd, data, sl⟩, ho, hc, n, hd⟩ := id ht
 obtain ⟨⟨cls2, dd2, data2, sl2⟩, ho2, hc2, n2, hd2⟩ := id hb
 simp only at hc hd hc2 hd2
 subst hc hd hc2 hd2
 have e : vs.toArray ++ ws.toArray = (vs ++ ws).toArray := by simp
 by_cases hw : ws = []
 ·exact concat_meets ⟨_, ho, rfl⟩ ⟨_, ho2, rfl⟩ noFill_tuple_add seq_tuple_add PySem.F.slot_tuple_add PySem.F.entry_tuple_add (PySem.F.args_tuple_add_2 _ _)
   (tuple_addW1 t b vs.toArray ws.toArray n n2 dd dd2 sl sl2 (by simpa using hv) (by simp [hw])) ⟨ho, ho2, h1 hw⟩
 ·refine concat_meets ⟨_, ho, rfl⟩ ⟨_, ho2, rfl⟩ noFill_tuple_add seq_tuple_add PySem.F.slot_tuple_add PySem.F.entry_tuple_add (PySem.F.args_tuple_add_2 _ _)
   (tuple_addW2 t b vs.toArray ws.toArray n n2 dd dd2 sl sl2 (by simpa using hv) (by simpa using hw) (by rw [List.size_toArray, List.size_toArray]; exact hsz)) ⟨ho, ho2, ?_⟩
  rw [e]
  exact h2 hw
noncomputable def sIx (n d : Nat) : Option Int → Nat
 | none => d
 | some v => if v < 0 then (v + (n : Int)).toNat else min v.toNat n
theorem sIx_none (n d : Nat) : sIx n d none = d := rfl
theorem sIx_nat (n d k : Nat) : sIx n d (some (k : Int)) = min k n := by
 show (if (k : Int) < 0 then ((k : Int) + (n : Int)).toNat else min (k : Int).toNat n) = min k n
 rw [if_neg (by lia), Int.toNat_natCast]
theorem c0c (n d : Nat) (hd : d ≤ n) (o : Option Int) : sIx n d o ≤ n := by
 cases o with
 | none => exact hd
 | some v =>
   show (if v < 0 then (v + (n : Int)).toNat else min v.toNat n) ≤ n
   by_cases hv : v < 0
   ·rw [if_pos hv]; lia
   ·rw [if_neg hv]; exact Nat.min_le_right _ _
theorem b4T (v : Int) (n d : Nat) : (if v < 0 then max (v + (n : Int)) 0 else min v (n : Int)) = ((sIx n d (some v) : Nat) : Int) := by
 show (if v < 0 then max (v + (n : Int)) 0 else min v (n : Int)) = (((if v < 0 then (v + (n : Int)).toNat else min v.toNat n) : Nat) : Int)
 by_cases hv : v < 0
 ·simp only [if_pos hv]; lia
 ·simp only [if_neg hv]; lia
theorem b2Q (lo hi : Option Int) (n : Nat) : Builtin.Slice.sliceAdjust lo hi 1 (n : Int) = (((sIx n 0 lo : Nat) : Int), ((sIx n n hi : Nat) : Int)) := by
 have h1 : ¬ ((1 : Int) < 0) := by lia
 unfold Builtin.Slice.sliceAdjust
 simp only [h1, if_false]
 refine Prod.ext ?_ ?_
 ·cases lo with
  | none => rfl
  | some v => exact b4T v n 0
 ·cases hi with
  | none => rfl
  | some v => exact b4T v n n
theorem b2n (i j : Nat) : Builtin.Slice.slicePlaces (i : Int) (j : Int) 1 = j - i := by
 unfold Builtin.Slice.slicePlaces
 have h1 : (1 : Int) > 0 := by lia
 simp only [h1, if_true, Int.ediv_one]
 split <;> lia
theorem a4D {v : Value} {o : Option Int} {Q : Option Int → Shared → Prop} (p : IsPart v o) (h : Q o s) : wpAny (model prog w) A (Builtin.Slice.slicePartIndex v) Q E s := by
 cases p with
 | none => exact slicePart_none h
 | int i t => exact slicePart_int h
theorem a3i {sl : Addr} {vl vu : Value} {lo hi : Option Int} {n : Nat} {Q : Int × Int × Nat → Shared → Prop} (hs : s.heap.IsSliceOf sl vl vu .none) (pl : IsPart vl lo) (pu : IsPart vu hi)
  (h : Q (((sIx n 0 lo : Nat) : Int), 1, sIx n n hi - sIx n 0 lo) s) : wpAny (model prog w) A (Builtin.Slice.sliceApplied (.ref sl) (pure (n : Int))) Q E s := by
 obtain ⟨os, hos, hcs, hds⟩ := id hs
 unfold Builtin.Slice.sliceApplied Builtin.Slice.sliceFields
 refine wpAny_bind (wpAny_bind (wpAny_field hos hds (x := vl) rfl (wpAny_bind (wpAny_field hos hds (x := vu) rfl (wpAny_bind (wpAny_field hos hds (x := .none) rfl (wpAny_pure ?_)))))))
 refine wpAny_bind (slicePart_none ?_)
 show wpAny _ _ (if ((1 : Int) == 0) = true then _ else _) _ _ s
 rw [if_neg (by decide)]
 refine wpAny_bind (a4D pl (wpAny_bind (a4D pu (wpAny_bind (wpAny_pure ?_)))))
 show wpAny _ _ (match Builtin.Slice.sliceAdjust lo hi 1 (n : Int) with | (lo, hi) => pure (lo, (1 : Int), Builtin.Slice.slicePlaces lo hi 1)) _ _ s
 rw [b2Q lo hi n]
 show wpAny _ _ (pure (((sIx n 0 lo : Nat) : Int), (1 : Int), Builtin.Slice.slicePlaces ((sIx n 0 lo : Nat) : Int) ((sIx n n hi : Nat) : Int) 1)) _ _ s
 rw [b2n]
 exact wpAny_pure h
theorem b5E (xs : Array Value) (i k : Nat) : ((List.range k).filterMap fun (m : Nat) => xs[((i : Int) + (m : Int) * 1).toNat]?).toArray = ((xs.toList.drop i).take k).toArray := by
 have e : (fun (m : Nat) => xs[((i : Int) + (m : Int) * 1).toNat]?) = fun m => xs[i + m]? := by
  funext m
  have : ((i : Int) + (m : Int) * 1).toNat = i + m := by lia
  rw [this]
 rw [e]
 have := pick_run xs i k
 rw [List.filterMap_map] at this
 have e2 : ((fun x => xs[x]?) ∘ fun x => i + x) = fun m => xs[i + m]? := rfl
 rw [e2] at this
 rw [this]
theorem getItem_tuple_cut {t sl : Addr} {items : Array Value} {vl vu : Value} {lo hi : Option Int} {Q : Value → Shared → Prop} (ht : IsTup s.heap t items) (hs : s.heap.IsSliceOf sl vl vu .none) (pl : IsPart vl lo) (pu : IsPart vu hi)
  (hw : ¬ (sIx items.size 0 lo = 0 ∧ sIx items.size items.size hi = items.size))
  (h : Q (.ref s.heap.objs.size) { s with heap := s.heap.push { cls := .type "tuple", data := .seq ((items.toList.drop (sIx items.size 0 lo)).take (sIx items.size items.size hi - sIx items.size 0 lo)).toArray } })
  (hsz : items.size ≤ sizeLine) : wpAny (model prog w) A (getItem (.ref t) (.ref sl)) Q E s := by
 have htake : sizeOk (.seq ((items.toList.drop (sIx items.size 0 lo)).take (sIx items.size items.size hi - sIx items.size 0 lo)).toArray) := by
  show ((items.toList.drop (sIx items.size 0 lo)).take (sIx items.size items.size hi - sIx items.size 0 lo)).toArray.size ≤ sizeLine
  rw [List.size_toArray, List.length_take, List.length_drop, Array.length_toList]
  lia
 have hj : sIx items.size items.size hi ≤ items.size := c0c _ _ (Nat.le_refl _) hi
 obtain ⟨os, hos, hcs, hds⟩ := id hs
 have hTs : s.TypeIs (.ref sl) "slice" := ⟨os, hos, hcs⟩
 unfold getItem
 try with_reducible refine wpAny_holding ?_
 first | refine wpAny_bind (wpAny_pure ?_) | skip
 refine wpAny_bind (wpAny_sequenceKey ht.typeIs (by decide) ?_)
 refine wpAny_bind (wpAny_callSpecial?_slot (name := Str.ofString "__getitem__") ht.typeIs PyProof.Rows.slot_tuple_getitem
  (wpAny_call_entry PyProof.Rows.slot_tuple_getitem ht.typeIs entry_tuple_getitem ?_ (args_tuple_getitem _ _)))
 show wpAny _ _ (Builtin.Tuple.tupleItemsOf (.ref t) >>= _) _ _ s
 refine wpAny_bind (tupleItemsOf_ ht ?_)
 refine wpAny_bind (wpAny_typeOf hTs ?_)
 rw [if_pos (by decide)]
 refine wpAny_bind (a3i hs pl pu ?_)
 have hno : ¬ ((((sIx items.size 0 lo : Nat) : Int) == 0 && (1 : Int) == 1 && (sIx items.size items.size hi - sIx items.size 0 lo) == items.size) = true) := by
  intro q
  rw [Bool.and_eq_true, Bool.and_eq_true] at q
  have q1 : ((sIx items.size 0 lo : Nat) : Int) = 0 := eq_of_beq q.1.1
  have q2 : sIx items.size items.size hi - sIx items.size 0 lo = items.size := eq_of_beq q.2
  exact hw ⟨by lia, by lia⟩
 show wpAny _ _ (if (((sIx items.size 0 lo : Nat) : Int) == 0 && (1 : Int) == 1 && (sIx items.size items.size hi - sIx items.size 0 lo) == items.size) = true then _ else _) _ _ s
 rw [if_neg hno, b5E]
 first
  | exact wpAny_bind (m := Builtin.Tuple.tupleExact _) (wpAny_newObj_type (wpAny_pure ⟨_, rfl, wpAny_pure h⟩) htake)
  | exact wpAny_bind (m := Builtin.Tuple.tupleExact _) (wpAny_newObj_type (wpAny_bind (wpAny_pure (wpAny_pure ⟨_, rfl, wpAny_pure h⟩))) htake)
  | exact wpAny_bind (wpAny_bind (m := Builtin.Tuple.tupleExact _) (wpAny_newObj_type (wpAny_pure (wpAny_pure ⟨_, rfl, wpAny_pure h⟩)) htake))
  | exact wpAny_bind (wpAny_bind (m := Builtin.Tuple.tupleExact _) (wpAny_newObj_type (wpAny_pure ⟨_, rfl, wpAny_pure h⟩) htake))
end
end HT
namespace L2
open PySem PySem.Spec PyProof.Rows
noncomputable abbrev TO := St → Hp → (Option Int → Hp → Prop) → Prop
noncomputable def PO (X : Cx) (e : Option Expr) (t : TO) : Prop :=
 ∀ (pins : List (Addr × Obj)) (s : Shared) (σ : St) (H : Hp) (Q : Option Int → Hp → Prop), Inv X pins σ H s → t σ H Q →
   wpAny (model X.prog X.w) X.A (evalPart e X.env) (fun u s' => ∃ o H', Inv X pins σ H' s' ∧ IsPart u o ∧ Q o H') X.xe s
noncomputable def b7x : TO := fun _ H Q => Q none H
noncomputable def c1v (t : TE) : TO := fun σ H Q => t σ H fun x H1 => ∃ i, x = .int i ∧ Q (some i) H1
theorem a6P {ns : List Int} : ∀ {us : List Value}, Vals (ns.map V.int) us → IntsAre us ns := by
 induction ns with
 | nil => intro us r; rw [List.map_nil] at r; cases r; exact .nil
 | cons n ns ih =>
   intro us r
   rw [List.map_cons] at r
   cases r with
   | cons r1 r2 =>
     obtain ⟨t, e⟩ := r1
     subst e
     exact .cons n t (ih r2)
section
variable {X : Cx} {e : Expr} {te : TE} {lo hi : Option Expr} {tl th : TO} {pos p2 : Pos}
theorem b8k : PO X none b7x := by
 intro pins s σ H Q I h
 rw [evalPart_none]
 exact wpAny_pure ⟨none, H, I, .none, h⟩
theorem b8j (h : PE X e te) : PO X (some e) (c1v te) := by
 intro pins s σ H Q I hw
 rw [evalPart_some]
 refine thn (h pins s σ H _ I hw) fun u s1 ⟨x, H1, I1, r1, q1⟩ => ?_
 obtain ⟨i, rfl, q⟩ := q1
 obtain ⟨t, rfl⟩ := r1
 exact ⟨some i, H1, I1, .int i t, q⟩
noncomputable def SlR (X : Cx) (r : V → Option Int → Option Int → Hp → VK → Prop) : Prop :=
 ∀ (pins : List (Addr × Obj)) (s : Shared) (σ : St) (H : Hp) (x : V) (v vl vu : Value) (lo hi : Option Int) (sl : Addr) (Q : VK), Inv X pins σ H s → RelV x v → s.heap.IsSliceOf sl vl vu .none → IsPart vl lo → IsPart vu hi → r x lo hi H Q →
   ∃ T id, typeLookup (.type T) "__getitem__" = pure (some (.builtin id)) ∧ s.TypeIs v T ∧ wpAny (model X.prog X.w) X.A (getItem v (.ref sl)) (EP X pins σ Q) X.xe s
theorem SlR.or {r r' : V → Option Int → Option Int → Hp → VK → Prop} (h : SlR X r) (h' : SlR X r') : SlR X (fun x lo hi H Q => r x lo hi H Q ∨ r' x lo hi H Q) := by
 intro pins s σ H x v vl vu lo hi sl Q I rx hs pl pu q
 rcases q with q | q
 ·exact h pins s σ H x v vl vu lo hi sl Q I rx hs pl pu q
 ·exact h' pins s σ H x v vl vu lo hi sl Q I rx hs pl pu q
noncomputable def tSl (r : V → Option Int → Option Int → Hp → VK → Prop) (te : TE) (tl th : TO) : TE := fun σ H Q => te σ H fun x H1 => tl σ H1 fun l H2 => th σ H2 fun u H3 => r x l u H3 Q
theorem b5F {r : V → Option Int → Option Int → Hp → VK → Prop} (hr : SlR X r) (he : PE X e te) (hl : PO X lo tl) (hu : PO X hi th) : PE X (.Subscript e (.Slice lo hi none p2) pos) (tSl r te tl th) := by
 intro pins s σ H Q I h
 refine Subscript_ (thn (he pins s σ H _ I h) fun v s1 ⟨x, H1, I1, r1, q1⟩ => ?_)
 refine wpAny_Slice (thn (hl pins s1 σ H1 _ I1 q1) fun vl s2 ⟨l, H2, I2, pl, q2⟩ => thn (hu pins s2 σ H2 _ I2 q2) fun vu s3 ⟨u, H3, I3, pu, q3⟩ => ?_)
 rw [evalPart_none]
 refine wpAny_pure ?_
 have I4 : Inv X pins σ H3 { s3 with heap := s3.heap.push { cls := .type "slice", data := .fields #[vl, vu, .none] } } := I3.kept (t' := s3.toks) fun b ob q => Heap.get?_push_of_some _ q
 obtain ⟨T, id, hT, ht, hg⟩ := hr pins { s3 with heap := s3.heap.push { cls := .type "slice", data := .fields #[vl, vu, .none] } } σ H3 x v vl vu l u s3.heap.objs.size Q I4 r1 (Heap.IsSliceOf.new ..) pl pu q3
 show wpAny (model X.prog X.w) X.A (subscriptTail e (.Slice lo hi none p2) v (.ref s3.heap.objs.size)) (EP X pins σ Q) X.xe { s3 with heap := s3.heap.push { cls := .type "slice", data := .fields #[vl, vu, .none] } }
 exact tail_any (ops := [.ref s3.heap.objs.size, v]) ht hT hg (by with_unfolding_all rfl)
noncomputable def cutV (xs : List V) (lo hi : Option Int) : List V := (xs.drop (HT.sIx xs.length 0 lo)).take (HT.sIx xs.length xs.length hi - HT.sIx xs.length 0 lo)
theorem a5X (xs : List V) (lo hi : Option Int) : (cutV xs lo hi).length ≤ xs.length := by
 unfold cutV
 rw [List.length_take, List.length_drop]
 lia
noncomputable def rSlT (K : PySem.W.Frag) : V → Option Int → Option Int → Hp → VK → Prop := fun x lo hi H Q => ∃ a xs, x = .ref a ∧ SqT K H a xs ∧
 ¬ (HT.sIx xs.length 0 lo = 0 ∧ HT.sIx xs.length xs.length hi = xs.length) ∧ ∀ p, H p = none → Q (.ref p) (upd H p (.tup (cutV xs lo hi)))
theorem b9Y : SlR X (rSlT X.K) := by
 intro pins s σ H x v vl vu lo hi sl Q I rx hs pl pu h
 obtain ⟨a, xs, rfl, hx, hw, q⟩ := h
 cases rx
 obtain ⟨its, r, ht, hz⟩ := I.tuple hx
 have hlen : its.toArray.size = xs.length := by rw [List.size_toArray]; exact r.length.symm
 refine ⟨"tuple", _, PyProof.Rows.slot_tuple_getitem.lookup, ht.typeIs, ?_⟩
 refine HT.getItem_tuple_cut ht hs pl pu (by rw [hlen]; exact hw) ?_ (by rw [hlen]; exact hz)
 rw [hlen]
 refine ⟨.ref s.heap.objs.size, _, I.laid (t' := s.toks) (o := .tup (cutV xs lo hi)) (fun b ob q => Heap.get?_push_of_some _ q) (Nat.le_refl _) ?_, rfl, q _ (I.hok.fresh (Nat.le_refl _))⟩
 exact ⟨Nat.le_trans (a5X xs lo hi) hz, _, (r.drop (HT.sIx xs.length 0 lo)).take (HT.sIx xs.length xs.length hi - HT.sIx xs.length 0 lo), a2B.new _ _⟩
noncomputable def c1G (K : PySem.W.Frag) : R2 := fun x y H Q => ∃ a b xs ys, x = .ref a ∧ y = .ref b ∧ SqT K H a xs ∧ SqT K H b ys ∧ xs ≠ [] ∧ xs.length + ys.length ≤ sizeLine ∧
 (ys = [] → Q (.ref a) H) ∧ (ys ≠ [] → ∀ p, H p = none → Q (.ref p) (upd H p (.tup (xs ++ ys))))
theorem Vals.nil_iff {xs : List V} {us : List Value} (r : Vals xs us) : us = [] ↔ xs = [] := by
 cases r with
 | nil => simp
 | cons _ _ => simp
theorem b8r : OpR X (binaryOp .Add) (c1G X.K) := by
 intro pins s σ H x y v u Q I rx ry h
 obtain ⟨a, b, xs, ys, rfl, rfl, ha, hb, hx, hz, q1, q2⟩ := h
 cases rx
 cases ry
 obtain ⟨its, r1, p1, _⟩ := I.tuple ha
 obtain ⟨its2, r2, p2, _⟩ := I.tuple hb
 refine HT.cat_tup p1 p2 (fun z => hx (r1.nil_iff.mp z)) (fun z => ⟨.ref a, H, I, rfl, q1 (r2.nil_iff.mp z)⟩) (fun z => ?_) (by rw [← r1.length, ← r2.length]; exact hz)
 refine ⟨.ref s.heap.objs.size, _, I.laid (t' := s.toks) (o := .tup (xs ++ ys)) (fun b ob q => Heap.get?_push_of_some _ q) (Nat.le_refl _) ?_, rfl, q2 (fun w => z (r2.nil_iff.mpr w)) _ (I.hok.fresh (Nat.le_refl _))⟩
 exact ⟨by rw [List.length_append]; exact hz, _, r1.append r2, a2B.new _ _⟩
end
noncomputable def ixN (n : Nat) (i : Int) : Option Nat := if 0 ≤ i then (if i < n then some i.toNat else none) else if -(n : Int) ≤ i then some (i + n).toNat else none
noncomputable def atI {α : Type} (xs : List α) (i : Int) : Option α := (ixN xs.length i).bind fun j => xs[j]?
theorem b3V {n : Nat} {i : Int} {j : Nat} (h : ixN n i = some j) : seqIndex? i n = some j ∧ j < n ∧ -(n : Int) ≤ i ∧ i < n := by
 unfold ixN at h
 by_cases h0 : 0 ≤ i
 ·rw [if_pos h0] at h
  by_cases h1 : i < n
  ·rw [if_pos h1] at h
   have e : i.toNat = j := Option.some.inj h
   exact ⟨by rw [seqIndex_of h0 h1, e], by lia, by lia, h1⟩
  ·rw [if_neg h1] at h; cases h
 ·rw [if_neg h0] at h
  by_cases h1 : -(n : Int) ≤ i
  ·rw [if_pos h1] at h
   have e : (i + n).toNat = j := Option.some.inj h
   exact ⟨by rw [seqIndex_neg (by lia) h1, e], by lia, h1, by lia⟩
  ·rw [if_neg h1] at h; cases h
theorem b0I {α : Type} {xs : List α} {i : Int} {v : α} (h : atI xs i = some v) : ∃ j, seqIndex? i xs.length = some j ∧ xs[j]? = some v ∧ j < xs.length ∧ -(xs.length : Int) ≤ i ∧ i < xs.length := by
 unfold atI at h
 cases e : ixN xs.length i with
 | none => rw [e] at h; cases h
 | some j =>
   rw [e] at h
   obtain ⟨h1, h2, h3, h4⟩ := b3V e
   exact ⟨j, h1, h, h2, h3, h4⟩
theorem a3y {α : Type} {xs : List α} {j : Nat} {v : α} (h : xs[j]? = some v) : atI xs (j : Int) = some v := by
 have hj : j < xs.length := (List.getElem?_eq_some_iff.mp h).1
 have e : ixN xs.length (j : Int) = some j := by
  unfold ixN
  rw [if_pos (by lia), if_pos (by lia)]; simp
 unfold atI; rw [e]; exact h
noncomputable def b5f (b : Expr) : Prop := ∀ o i, subscripted b false o i = operate [o, i] (getItem o i)
noncomputable def IxR (X : Cx) (r : R2) : Prop :=
 ∀ (value slice : Expr) (pins : List (Addr × Obj)) (s : Shared) (σ : St) (H : Hp) (x y : V) (v u : Value) (Q : VK), Inv X pins σ H s → RelV x v → RelV y u → r x y H Q →
   subscripted slice false v u = operate [v, u] (getItem v u) → wpAny (model X.prog X.w) X.A (subscriptTail value slice v u) (EP X pins σ Q) X.xe s
noncomputable def MtR (X : Cx) (id : String) (r : V → List V → Hp → VK → Prop) : Prop :=
 ∀ (pins : List (Addr × Obj)) (s : Shared) (σ : St) (H : Hp) (x : V) (xs : List V) (v : Value) (us : List Value) (Q : VK), Inv X pins σ H s → RelV x v → Vals xs us → r x xs H Q →
   wpAny (model X.prog X.w) X.A (call (.builtin id) (v :: us)) (EP X pins σ Q) X.xe s
section
variable {X : Cx} {a b : Expr} {ta tb : TE} {pos : Pos}
theorem c1M {r : R2} (hr : IxR X r) (ha : PE X a ta) (hb : PE X b tb) (hs : b5f b) : PE X (.Subscript a b pos) (tOp r ta tb) := by
 intro pins s σ H Q I h
 exact Subscript_ (binT ha hb I h fun v u s2 x y H2 I2 rx ry q => hr a b pins s2 σ H2 x y v u Q I2 rx ry q (hs _ _))
noncomputable def rIxL (K : PySem.W.Frag) : R2 := fun x y H Q => ∃ p xs i v, x = .ref p ∧ y = .int i ∧ SqL K H p xs ∧ atI xs i = some v ∧ Q v H
noncomputable def rIxT (K : PySem.W.Frag) : R2 := fun x y H Q => ∃ p xs i v, x = .ref p ∧ y = .int i ∧ SqT K H p xs ∧ atI xs i = some v ∧ Q v H
noncomputable def rIxS : R2 := fun x y H Q => ∃ z i c, x = .str z ∧ y = .int i ∧ z.length ≤ sizeLine ∧ atI z.cps.toList i = some c ∧ Q (.str ⟨#[c]⟩) H
theorem b3U : IxR X (rIxL X.K) := by
 intro value slice pins s σ H x y v u Q I rx ry h hs
 obtain ⟨p, xs, i, z, rfl, rfl, hq, he, q⟩ := h
 cases rx
 obtain ⟨t, rfl⟩ := ry
 obtain ⟨its, r, pl, hz⟩ := I.list hq
 obtain ⟨j, h1, h2, h3, h4, h5⟩ := b0I he
 obtain ⟨w, ew, rw'⟩ := r.get h2
 have hl := r.length
 have hn := a5O
 have fin : EP X pins σ Q w s := ⟨z, H, I, rw', q⟩
 by_cases h0 : 0 ≤ i
 ·have hj : i.toNat = j := by
   rw [seqIndex_of h0 h5] at h1
   exact Option.some.inj h1
  exact item_listR pl.isList h0 (by lia) (by rw [hj]; simpa using ew) fin hs
 ·have hj : (i + (its.toArray.size : Int)).toNat = j := by
   rw [seqIndex_neg (by lia) h4] at h1
   rw [List.size_toArray, ← hl]
   exact Option.some.inj h1
  exact subscriptTail_builtinR (x := w) pl.isList.typeIs slot_list_getitem.lookup
   (wpAny_getItem_list_neg (Q := fun r s' => r = w ∧ EP X pins σ Q r s') pl.isList (by lia) (by rw [List.size_toArray] <;> lia) (by lia) (by rw [hj]; simpa using ew) ⟨rfl, fin⟩) hs
theorem c0K : IxR X (rIxT X.K) := by
 intro value slice pins s σ H x y v u Q I rx ry h hs
 obtain ⟨p, xs, i, z, rfl, rfl, hq, he, q⟩ := h
 cases rx
 obtain ⟨t, rfl⟩ := ry
 obtain ⟨its, r, pl, hz⟩ := I.tuple hq
 obtain ⟨j, h1, h2, h3, h4, h5⟩ := b0I he
 obtain ⟨w, ew, rw'⟩ := r.get h2
 have hl := r.length
 have hn := a5O
 have fin : EP X pins σ Q w s := ⟨z, H, I, rw', q⟩
 exact subscriptTail_builtinR (x := w) pl.typeIs slot_tuple_getitem.lookup
  (getItem_tuple (j := j) (Q := fun r s' => r = w ∧ EP X pins σ Q r s') pl (by lia) (by lia) (by rw [List.size_toArray, ← hl]; exact h1) (by simpa using ew) ⟨rfl, fin⟩) hs
theorem c0L : IxR X rIxS := by
 intro value slice pins s σ H x y v u Q I rx ry h hs
 obtain ⟨z, i, c, rfl, rfl, hz, he, q⟩ := h
 obtain ⟨t, rfl⟩ := rx
 obtain ⟨t', rfl⟩ := ry
 obtain ⟨j, h1, h2, h3, h4, h5⟩ := b0I he
 have hl : z.cps.toList.length = z.length := by simp [Str.length]
 rw [hl] at h1 h4 h5
 have hn := a5O
 exact tail_any (typeIs_str s z t) slot_str_getitem.lookup (getItem_str (c := c) (by
  have e1 : decide (i < -(2 ^ 63 : Int)) = false := decide_eq_false (by lia)
  have e2 : decide (i ≥ 2 ^ 63) = false := decide_eq_false (by lia)
  rw [e1, e2, Bool.or_false]) (by rw [h1]; simpa using h2) ⟨.str ⟨#[c]⟩, H, I.tok _, ⟨_, rfl⟩, q⟩) hs
theorem b2x (its : List Value) (n j : Nat) (u : Value) : Obj.mapSeq (·.setIfInBounds j u) { cls := .type "list", data := .seq its.toArray n } = { cls := .type "list", data := .seq (its.set j u).toArray n } := by
 simp [Obj.mapSeq]
theorem Inv.lst {pins : List (Addr × Obj)} {σ : St} {H : Hp} {s : Shared} {p : Addr} {xs : List V} (I : Inv X pins σ H s) (h : H p = some (.lst xs)) :
  ∃ (its : List Value) (n : Nat), Vals xs its ∧ s.heap.get? p = some { cls := .type "list", data := .seq its.toArray n } ∧ xs.length ≤ sizeLine := by
 obtain ⟨z, its, n, r, e⟩ := I.hok p _ h
 exact ⟨its, n, r, e, z⟩
theorem Inv.lstUpd {pins : List (Addr × Obj)} {σ : St} {H : Hp} {s : Shared} {p : Addr} {xs ys : List V} {its its' : List Value} {n n' : Nat} {f : Obj → Obj} (I : Inv X pins σ H s) (h : H p = some (.lst xs))
  (ho : s.heap.get? p = some { cls := .type "list", data := .seq its.toArray n }) (hf : f { cls := .type "list", data := .seq its.toArray n } = { cls := .type "list", data := .seq its'.toArray n' }) (r : Vals ys its') (hz : ys.length ≤ sizeLine) (t : Nat) :
  Inv X pins σ (upd H p (.lst ys)) { s with heap := s.heap.update p f, toks := t } := by
 have e : (s.heap.update p f).get? p = some { cls := .type "list", data := .seq its'.toArray n' } := by
  rw [Heap.get?_update_self f ho (by rw [hf] <;> rfl), hf]
 refine I.write (x := p) (e := p) (by rw [h]; trivial) (.inl rfl) (fun b u hb q => (Heap.get?_update_other _ _ (Ne.symm hb)).trans q) ⟨_, e⟩ ?_
 exact ⟨hz, its', n', r, e⟩
noncomputable def c1E : V → V → V → Hp → (Hp → Prop) → Prop := fun o i v H Q => ∃ p xs k j, o = .ref p ∧ i = .int k ∧ H p = some (.lst xs) ∧ ixN xs.length k = some j ∧ Q (upd H p (.lst (xs.set j v)))
theorem b5r : PSet X c1E := by
 intro pins s σ H o i v ov iv u Q I ro ri rv h
 obtain ⟨p, xs, k, j, rfl, rfl, hp, hj, q⟩ := h
 cases ro
 obtain ⟨t, rfl⟩ := ri
 obtain ⟨its, n, r, ho, hz⟩ := I.lst hp
 obtain ⟨h1, h2, h3, h4⟩ := b3V hj
 have hl := r.length
 have hn := a5O
 have I' : Inv X pins σ (upd H p (.lst (xs.set j v))) { s with heap := s.heap.update p (Obj.mapSeq (·.setIfInBounds j u)) } :=
  I.lstUpd hp ho (b2x its n j u) (r.set rv j) (by rw [List.length_set]; exact hz) s.toks
 by_cases h0 : 0 ≤ k
 ·have hk : k.toNat = j := by
   rw [seqIndex_of h0 h4] at h1
   exact Option.some.inj h1
  exact PySem.W.ki_setAt ho h0 (by lia) (by rw [List.size_toArray, ← hl]; exact h4) (by rw [hk]; exact ⟨_, I', q⟩)
 ·have hk : (k + (its.toArray.size : Int)).toNat = j := by
   rw [seqIndex_neg (by lia) h3] at h1
   rw [List.size_toArray, ← hl]
   exact Option.some.inj h1
  exact PySem.W.ki_setBack ho (by lia) (by rw [List.size_toArray, ← hl]; exact h3) (by lia) (by rw [hk]; exact ⟨_, I', q⟩)
theorem a8x (lo hi : Option Int) (n : Nat) : (sliceBounds lo hi none n).1 = ((HT.sIx n 0 lo : Nat) : Int) ∧ (sliceBounds lo hi none n).2.1 = ((HT.sIx n n hi : Nat) : Int) ∧ (sliceBounds lo hi none n).2.2 = 1 := by
 refine ⟨?_, ?_, rfl⟩
 ·cases lo with
  | none => simp [sliceBounds, HT.sIx]
  | some i =>
    simp only [sliceBounds, HT.sIx, Option.getD_none, show (1 : Int) > 0 by decide, if_true]
    by_cases h : i < 0
    ·simp only [h, if_true] <;> lia
    ·simp only [h, if_false] <;> lia
 ·cases hi with
  | none => simp [sliceBounds, HT.sIx]
  | some i =>
    simp only [sliceBounds, HT.sIx, Option.getD_none, show (1 : Int) > 0 by decide, if_true]
    by_cases h : i < 0
    ·simp only [h, if_true] <;> lia
    ·simp only [h, if_false] <;> lia
theorem a7n (its : List Value) (lo hi : Option Int) : slicePick its.toArray lo hi none = ((its.drop (HT.sIx its.length 0 lo)).take (HT.sIx its.length its.length hi - HT.sIx its.length 0 lo)).toArray := by
 obtain ⟨h1, h2, h3⟩ := a8x lo hi its.toArray.size
 unfold slicePick
 rw [h1, h2, h3]
 simp only [sliceRange_one, pick_run, List.size_toArray] <;> rfl
noncomputable def rSlL (K : PySem.W.Frag) : V → Option Int → Option Int → Hp → VK → Prop := fun x lo hi H Q => ∃ a xs, x = .ref a ∧ SqL K H a xs ∧ ∀ p, H p = none → Q (.ref p) (upd H p (.lst (cutV xs lo hi)))
theorem b7D : SlR X (rSlL X.K) := by
 intro pins s σ H x v vl vu lo hi sl Q I rx hs pl pu h
 obtain ⟨a, xs, rfl, hx, q⟩ := h
 cases rx
 obtain ⟨its, r, ht, hz⟩ := I.list hx
 have hlen := r.length
 refine ⟨"list", _, slot_list_getitem.lookup, ht.isList.typeIs, ?_⟩
 refine wpAny_getItem_list_slice ht.isList hs pl pu .none (by simp) ?_ (by rw [List.size_toArray] <;> lia)
 rw [a7n, ← hlen]
 refine ⟨.ref s.heap.objs.size, _, I.laid (t' := s.toks) (o := .lst (cutV xs lo hi)) (fun b ob q => Heap.get?_push_of_some _ q) (Nat.le_refl _) ?_, rfl, q _ (I.hok.fresh (Nat.le_refl _))⟩
 exact ⟨Nat.le_trans (a5X xs lo hi) hz, _, 0, (r.drop (HT.sIx xs.length 0 lo)).take (HT.sIx xs.length xs.length hi - HT.sIx xs.length 0 lo), Heap.get?_push_size _ rfl⟩
noncomputable def a6w : V → Bool
 | .non => true
 | .bl _ => true
 | .int _ => true
 | .str _ => true
 | _ => false
noncomputable def eqV : V → V → Bool
 | .non, .non => true
 | .bl a, .bl b => a == b
 | .bl a, .int b => (if a then 1 else 0) == b
 | .int a, .bl b => a == (if b then 1 else 0)
 | .int a, .int b => a == b
 | .str a, .str b => a == b
 | _, _ => false
theorem c0Z {A : Around} {s : Shared} {y x : V} {u v : Value} (ry : RelV y u) (rx : RelV x v) (fy : a6w y = true) (fx : a6w x = true) : SeqAt.EqAt A s u v (eqV y x) := by
 cases y with
 | non =>
   cases ry
   cases x with
   | non => cases rx; exact SeqAt.EqAt.same _
   | bl b => cases rx; exact SeqAt.EqAt.none_bool b
   | int b => obtain ⟨t, rfl⟩ := rx; exact SeqAt.EqAt.none_int b t
   | str b => obtain ⟨t, rfl⟩ := rx; exact SeqAt.EqAt.none_str b t
   | _ => exact absurd (show false = true from fx) Bool.false_ne_true
 | bl a =>
   cases ry
   cases x with
   | non => cases rx; exact SeqAt.EqAt.bool_none a
   | bl b => cases rx; exact SeqAt.EqAt.bool_bool a b
   | int b => obtain ⟨t, rfl⟩ := rx; exact SeqAt.EqAt.bool_int a b t
   | str b => obtain ⟨t, rfl⟩ := rx; exact SeqAt.EqAt.bool_str a b t
   | _ => exact absurd (show false = true from fx) Bool.false_ne_true
 | int a =>
   obtain ⟨t', rfl⟩ := ry
   cases x with
   | non => cases rx; exact SeqAt.EqAt.int_none a t'
   | bl b => cases rx; exact SeqAt.EqAt.int_bool a t' b
   | int b => obtain ⟨t, rfl⟩ := rx; exact SeqAt.EqAt.int_int a t' b t
   | str b => obtain ⟨t, rfl⟩ := rx; exact SeqAt.EqAt.int_str a t' b t
   | _ => exact absurd (show false = true from fx) Bool.false_ne_true
 | str a =>
   obtain ⟨t', rfl⟩ := ry
   cases x with
   | non => cases rx; exact SeqAt.EqAt.str_none a t'
   | bl b => cases rx; exact SeqAt.EqAt.str_bool a t' b
   | int b => obtain ⟨t, rfl⟩ := rx; exact SeqAt.EqAt.str_int a t' b t
   | str b => obtain ⟨t, rfl⟩ := rx; exact SeqAt.EqAt.str_str a t' b t
   | _ => exact absurd (show false = true from fx) Bool.false_ne_true
 | _ => exact absurd (show false = true from fy) Bool.false_ne_true
noncomputable def eqU (x : V) (u : Value) : Bool := match u with
 | .none => eqV .non x
 | .bool b => eqV (.bl b) x
 | .int i _ => eqV (.int i) x
 | .str z _ => eqV (.str z) x
 | _ => false
theorem b6Y {x y : V} {u : Value} (r : RelV y u) (f : a6w y = true) : eqU x u = eqV y x := by
 cases y with
 | non => cases r; rfl
 | bl b => cases r; rfl
 | int i => obtain ⟨t, rfl⟩ := r; rfl
 | str z => obtain ⟨t, rfl⟩ := r; rfl
 | _ => exact absurd (show false = true from f) Bool.false_ne_true
theorem b0J {x : V} : ∀ {xs : List V} {us : List Value}, Vals xs us → xs.all a6w = true → us.any (eqU x) = xs.any fun y => eqV y x
 | _, _, .nil, _ => rfl
 | y :: xs, u :: us, .cons r t, f => by
   rw [List.all_cons, Bool.and_eq_true] at f
   rw [List.any_cons, List.any_cons, b6Y r f.1, b0J t f.2]
theorem a7I {A : Around} {s : Shared} {x : V} {v : Value} (rx : RelV x v) (fx : a6w x = true) : ∀ {xs : List V} {us : List Value}, Vals xs us → xs.all a6w = true → ∀ u ∈ us, SeqAt.EqAt A s u v (eqU x u)
 | _, _, .nil, _ => fun u hu => by cases hu
 | y :: xs, u :: us, .cons r t, f => fun u' hu => by
   rw [List.all_cons, Bool.and_eq_true] at f
   rcases List.mem_cons.mp hu with rfl | hu
   ·rw [b6Y r f.1]; exact c0Z r rx f.1 fx
   ·exact a7I rx fx t f.2 u' hu
noncomputable def inV (x : V) (xs : List V) : Bool := xs.any fun y => eqV y x
noncomputable def rIn (K : PySem.W.Frag) (neg : Bool) : R2 := fun x y H Q => ∃ p xs, y = .ref p ∧ (SqL K H p xs ∨ SqT K H p xs) ∧ a6w x = true ∧ xs.all a6w = true ∧ Q (.bl (if neg then !inV x xs else inV x xs)) H
theorem a8J : OpR X (compareOp .NotIn) (rIn X.K true) := by
 intro pins s σ H x y v u Q I rx ry h
 obtain ⟨p, xs, rfl, hq, fx, fs, q⟩ := h
 cases ry
 rcases hq with hq | hq
 ·obtain ⟨its, r, pl, hz⟩ := I.list hq
  refine SeqAt.notIn_listAt (eqU x) pl.isList (fun w hw => a7I rx fx r fs w (by simpa using hw)) ⟨.bl _, H, I, rfl, ?_⟩
  rw [show its.toArray.any (eqU x) = its.any (eqU x) by simp, b0J r fs]
  exact q
 ·obtain ⟨its, r, pl, hz⟩ := I.tuple hq
  refine SeqAt.notIn_tupleAt (eqU x) pl (fun w hw => a7I rx fx r fs w (by simpa using hw)) ⟨.bl _, H, I, rfl, ?_⟩
  rw [show its.toArray.any (eqU x) = its.any (eqU x) by simp, b0J r fs]
  exact q
theorem a3x : a6z X (.builtin "len") (fun xs H Q => ∃ p ys, xs = [.ref p] ∧ (SqL X.K H p ys ∨ SqT X.K H p ys) ∧ Q (.int ys.length) H) := by
 intro pins s σ H xs us Q I r h
 obtain ⟨p, ys, rfl, hq, q⟩ := h
 obtain ⟨u, rfl, rx⟩ := a3n r
 cases rx
 have hn := a5O
 rcases hq with hq | hq
 ·obtain ⟨its, r', pl, hz⟩ := I.list hq
  have hlen := r'.length
  exact Calls.call_len_list pl.isList (by simp only [List.size_toArray] <;> lia) ⟨.int ys.length, H, I.tok _, ⟨s.toks + 1, by rw [List.size_toArray, hlen]⟩, q⟩
 ·obtain ⟨its, r', pl, hz⟩ := I.tuple hq
  have hlen := r'.length
  exact len_tuple pl (by simp only [List.size_toArray] <;> lia) ⟨.int ys.length, H, I.tok _, ⟨s.toks + 1, by rw [List.size_toArray, hlen]⟩, q⟩
theorem a9x : a6z X (.builtin "len") (fun xs H Q => ∃ z, xs = [.str z] ∧ z.length ≤ sizeLine ∧ Q (.int z.length) H) := by
 intro pins s σ H xs us Q I r h
 obtain ⟨z, rfl, hz, q⟩ := h
 obtain ⟨u, rfl, t, rfl⟩ := a3n r
 have hn := a5O
 exact len_str (by lia) ⟨.int z.length, H, I.tok _, ⟨_, rfl⟩, q⟩
theorem a3e : a6z X (.type "tuple") (fun xs H Q => ∃ p ys, xs = [.ref p] ∧ ((SqL X.K H p ys ∧ ∀ l, H l = none → Q (.ref l) (upd H l (.tup ys))) ∨ (SqT X.K H p ys ∧ Q (.ref p) H))) := by
 intro pins s σ H xs us Q I r h
 obtain ⟨p, ys, rfl, h⟩ := h
 obtain ⟨u, rfl, rx⟩ := a3n r
 cases rx
 rcases h with ⟨hq, q⟩ | ⟨hq, q⟩
 ·obtain ⟨its, r', pl, hz⟩ := I.list hq
  have hlen := r'.length
  refine call_tuple_list pl.isList (fun h' kp => ?_) (by simp only [List.size_toArray] <;> lia)
  have I1 : Inv X pins σ H { s with heap := h' } := I.kept (t' := s.toks) kp
  have I2 : Inv X pins σ (upd H h'.objs.size (.tup ys)) { s with heap := h'.push { cls := .type "tuple", data := .seq its.toArray } } :=
   I1.laid (t' := s.toks) (fun b o e => Heap.get?_push_of_some _ e) (Nat.le_refl _) (show a1P X.prog X.w _ _ _ (.tup ys) from ⟨hz, its, r', a2B.new _ _⟩)
  exact ⟨.ref h'.objs.size, _, I2, rfl, q _ (I1.hok.fresh (Nat.le_refl _))⟩
 ·obtain ⟨its, r', pl, hz⟩ := I.tuple hq
  exact call_tuple_same pl ⟨.ref p, H, I, rfl, q⟩
noncomputable def tyV (K : PySem.W.Frag) (T : String) (x : V) (H : Hp) : Prop := match x with
 | .str _ => T = "str"
 | .int _ => T = "int"
 | .ref p => (T = "list" ∧ ∃ xs, SqL K H p xs) ∨ (T = "tuple" ∧ ∃ o, K.lookup p = some o ∧ o.cls = .type "tuple" ∧ o.dict = none) ∨
   (T = "dict" ∧ ((∃ kvs, H p = some (.dK kvs)) ∨ ∃ kvs, H p = some (.dT kvs))) ∨ (T = "set" ∧ ∃ S n, H p = some (.set S n))
 | _ => False
theorem b6G {pins : List (Addr × Obj)} {σ : St} {H : Hp} {s : Shared} {T : String} {x : V} {v : Value} (I : Inv X pins σ H s) (r : RelV x v) (ty : tyV X.K T x H) :
  s.TypeIs v T ∧ ∀ a, v = .ref a → ∃ ob, s.heap.get? a = some ob ∧ ob.dict = none := by
 cases x with
 | str z =>
   obtain ⟨t, rfl⟩ := r
   cases (show T = "str" from ty)
   exact ⟨typeIs_str s z t, fun _ e => nomatch e⟩
 | int i =>
   obtain ⟨t, rfl⟩ := r
   cases (show T = "int" from ty)
   exact ⟨typeIs_int s i t, fun _ e => nomatch e⟩
 | ref p =>
   cases r
   rcases ty with ⟨rfl, xs, hq⟩ | ⟨rfl, o, hk, hc, hd⟩ | ⟨rfl, hk⟩ | ⟨rfl, S, n, hk⟩
   ·obtain ⟨its, _, pl, _⟩ := I.list hq
    refine ⟨pl.isList.typeIs, fun a e => ?_⟩
    cases e
    obtain ⟨o, n, e, c, hd, _⟩ := pl
    exact ⟨o, e, hd⟩
   ·refine ⟨⟨o, I.kIn p o hk, hc⟩, fun a e => ?_⟩
    cases e
    exact ⟨o, I.kIn _ o hk, hd⟩
   ·have z : ∃ o, s.heap.get? p = some o ∧ o.ExactDict := by
     rcases hk with ⟨kvs, hk⟩ | ⟨kvs, hk⟩
     ·obtain ⟨_, _, _, _, o, _, _, e, ex, _⟩ := I.hok p _ hk
      exact ⟨o, e, ex⟩
     ·obtain ⟨_, _, _, _, o, _, _, e, ex, _⟩ := I.hok p _ hk
      exact ⟨o, e, ex⟩
    obtain ⟨o, e, ex⟩ := z
    refine ⟨⟨o, e, ex.1⟩, fun a e2 => ?_⟩
    cases e2
    exact ⟨o, e, ex.2.1⟩
   ·obtain ⟨o, _, _, _, e, ex, _⟩ := I.hok p _ hk
    refine ⟨⟨o, e, ex.1⟩, fun a e2 => ?_⟩
    cases e2
    exact ⟨o, e, ex.2.1⟩
 | _ => exact False.elim ty
noncomputable def tBM (K : PySem.W.Frag) (T : String) (r : V → List V → Hp → VK → Prop) (to : TE) (t : TA) : TE := fun σ H Q => to σ H fun x H1 => tyV K T x H1 ∧ t σ H1 fun xs H2 => r x xs H2 Q
variable {o e : Expr} {es : List Expr} {to : TE} {t : TA} {name : Str} {apos cpos : Pos} {T id : String} {r : V → List V → Hp → VK → Prop}
theorem c1N (pa : PlainAttrs T) (slot : Slot T name id) (hty : typeOf (.builtin id) = pure (.type "method_descriptor")) (hm : MtR X id r) (ho : PE X o to) (ha : PA X (e :: es) t)
  (hbase : attributeBase o name X.env (eval o X.env) = eval o X.env := by rfl)
  (hfew : ((backTo cpos (starEach (e :: es) X.env)).all (fun x => !x.1) && (backToKw cpos (keywordEach [] X.env)).all (fun x => x.1.isSome)
   && decide ((e :: es).length + ([] : List Keyword).length + (if ([] : List Keyword).isEmpty then 0 else 1) < 30)) = true := by rfl)
  (hline : (apos.endLine == cpos.line) = true := by rfl) (hs : starEach (e :: es) X.env = (false, eval e X.env) :: starEach es X.env := by rfl) (hplain : (backTo cpos (starEach es X.env)).any (·.1) = false := by rfl) :
  PE X (.Call (.Attribute o name apos) (e :: es) [] cpos) (tBM X.K T r to t) := by
 intro pins s σ H Q I h
 refine wpAny_Call_method_late hbase hfew hline rfl (thn (ho pins s σ H _ I h) fun v s1 ⟨x, H1, I1, r1, ty, q1⟩ => ?_)
 obtain ⟨h1, h2⟩ := b6G I1 r1 ty
 refine ⟨T, id, pa, slot, hty, h1, h2, ?_⟩
 have hA := ha cpos pins s1 σ H1 _ I1 q1
 rw [hs] at hA ⊢
 refine Calls.callWith_builtin (by show (false || (backTo cpos (starEach es X.env)).any (·.1)) = false; rw [hplain] <;> rfl) (Calls.evalArgs_plain ?_)
 exact thn hA fun us s2 ⟨vs, H2, I2, r2, q2⟩ => hm pins s2 σ H2 x vs v us Q I2 r1 r2 q2
end
noncomputable def MtM (X : Cx) (id : String) (r : V → List V → Hp → VK → Prop) : Prop :=
 ∀ (pins : List (Addr × Obj)) (s : Shared) (σ : St) (H : Hp) (x : V) (xs : List V) (v : Value) (us : List Value) (Q : VK), Inv X pins σ H s → RelV x v → Vals xs us → r x xs H Q →
   wpAny (model X.prog X.w) X.A (call (.builtin id) (v :: us)) (EP X pins σ Q) X.xe s
theorem Vals.one : ∀ {x : V} {us : List Value}, Vals [x] us → ∃ u, us = [u] ∧ RelV x u
 | _, _, .cons r .nil => ⟨_, rfl, r⟩
theorem Vals.two : ∀ {x y : V} {us : List Value}, Vals [x, y] us → ∃ u v, us = [u, v] ∧ RelV x u ∧ RelV y v
 | _, _, _, .cons r (.cons q .nil) => ⟨_, _, rfl, r, q⟩
theorem Vals.reverse {xs : List V} {us : List Value} (h : Vals xs us) : Vals xs.reverse us.reverse := by
 induction h with
 | nil => exact .nil
 | cons r t ih => rw [List.reverse_cons, List.reverse_cons]; exact Vals.append ih (.cons r .nil)
theorem Vals.rep {xs : List V} {us : List Value} (h : Vals xs us) : ∀ k : Nat, Vals (List.replicate k xs).flatten (List.replicate k us).flatten
 | 0 => .nil
 | k + 1 => by
   rw [List.replicate_succ, List.replicate_succ, List.flatten_cons, List.flatten_cons]
   exact Vals.append h (Vals.rep h k)
theorem a5U (its : List Value) : ∀ (k : Nat) (acc : List Value),
  List.foldl (fun x1 x2 => x1 ++ x2) acc.toArray (List.replicate k its.toArray) = (acc ++ (List.replicate k its).flatten).toArray
 | 0, acc => by simp
 | k + 1, acc => by
   have e : acc.toArray ++ its.toArray = (acc ++ its).toArray := by simp
   have e2 : (acc ++ its) ++ (List.replicate k its).flatten = acc ++ (List.replicate (k + 1) its).flatten := by
    rw [List.replicate_succ, List.flatten_cons, List.append_assoc]
   rw [← e2, ← a5U its k (acc ++ its), ← e, List.replicate_succ, List.foldl_cons]
section
variable {X : Cx} {pins : List (Addr × Obj)} {σ : St} {H : Hp} {s : Shared} {l b : Addr} {xs ys zs : List V}
theorem Inv.lset {its its' : List Value} {n : Nat} {f : Array Value → Array Value} {t' : Nat} (I : Inv X pins σ H s) (hH : H l = some (.lst xs))
  (e : s.heap.get? l = some { cls := .type "list", data := .seq its.toArray n }) (hf : f its.toArray = its'.toArray) (hv : Vals ys its') (hz : ys.length ≤ sizeLine) :
  Inv X pins σ (upd H l (.lst ys)) { s with heap := s.heap.update l (Obj.mapSeq f), toks := t' } := by
 have q := PySem.IsL.update e f
 rw [hf] at q
 refine I.write (x := l) (e := l) (by rw [hH]; exact trivial) (.inl rfl) (fun b' u hb hu => (Heap.get?_update_other s.heap (Obj.mapSeq f) (Ne.symm hb)).trans hu) ⟨_, q⟩ ?_
 exact ⟨hz, its', _, hv, q⟩
theorem Inv.lnew {its : List Value} {t' : Nat} (I : Inv X pins σ H s) (hv : Vals ys its) (hz : ys.length ≤ sizeLine) :
  Inv X pins σ (upd H s.heap.objs.size (.lst ys)) { s with heap := s.heap.push { cls := .type "list", data := .seq its.toArray }, toks := t' } :=
 I.laid (fun _ _ q => Heap.get?_push_of_some _ q) (Nat.le_refl _) ⟨hz, its, 0, hv, Heap.get?_push_size _ rfl⟩
theorem Inv.fresh (I : Inv X pins σ H s) : H s.heap.objs.size = none := I.hok.fresh (Nat.le_refl _)
theorem Inv.lstM (I : Inv X pins σ H s) (hH : H l = some (.lst xs)) : xs.length ≤ sizeLine ∧ ∃ (its : List Value) (n : Nat), Vals xs its ∧ xs.length = its.length ∧ s.heap.get? l = some { cls := .type "list", data := .seq its.toArray n } := by
 obtain ⟨z, its, n, r, e⟩ := I.hok l _ hH
 exact ⟨z, its, n, r, r.length, e⟩
theorem b5Q {n : Nat} (h : n ≤ sizeLine) : Builtin.List.listTooLong n = false := by
 unfold Builtin.List.listTooLong
 exact decide_eq_false (by lia)
end
section
variable {X : Cx}
noncomputable def b7W : V → List V → Hp → VK → Prop := fun x vs H Q => ∃ l xs y, x = .ref l ∧ vs = [y] ∧ H l = some (.lst xs) ∧ xs.length < sizeLine ∧ Q .non (upd H l (.lst (xs ++ [y])))
theorem b3L : MtM X "list.append" b7W := by
 intro pins s σ H x vs v us Q I rx rv h
 obtain ⟨l, xs, y, rfl, rfl, hH, hz, q⟩ := h
 cases rx
 obtain ⟨u, rfl, ru⟩ := rv.one
 obtain ⟨z, its, n, r, hl, e⟩ := I.lstM hH
 refine call_meets F.slot_list_append ⟨_, e, rfl⟩ F.entry_list_append (F.args_list_append_2 _ _) (PySem.list_append l its.toArray n u (by rw [List.size_toArray]; lia)) ⟨e, ?_⟩
 refine ⟨.non, _, I.lset (its' := its ++ [u]) hH e (by simp) (r.append (.cons ru .nil)) ?_, rfl, q⟩
 rw [List.length_append, List.length_singleton]
 lia
noncomputable def rCat : R2 := fun x y H Q => ∃ l b xs zs, x = .ref l ∧ y = .ref b ∧ H l = some (.lst xs) ∧ H b = some (.lst zs) ∧ xs.length + zs.length ≤ sizeLine ∧ ∀ p, H p = none → Q (.ref p) (upd H p (.lst (xs ++ zs)))
theorem c0B : OpR X (binaryOp .Add) rCat := by
 intro pins s σ H x y v u Q I rx ry h
 obtain ⟨l, b, xs, zs, rfl, rfl, hH, hB, hz, q⟩ := h
 cases rx
 cases ry
 obtain ⟨z, its, n, r, hl, e⟩ := I.lstM hH
 obtain ⟨z2, its2, n2, r2, hl2, e2⟩ := I.lstM hB
 refine PySem.P.add_list e e2 ?_ (by rw [List.size_toArray, List.size_toArray]; lia)
 have ea : its.toArray ++ its2.toArray = (its ++ its2).toArray := by simp
 rw [ea]
 exact ⟨.ref _, _, I.lnew (t' := s.toks) (r.append r2) (by rw [List.length_append]; lia), rfl, q _ I.fresh⟩
noncomputable def rRep : R2 := fun x y H Q => ∃ l k xs, x = .ref l ∧ y = .int k ∧ H l = some (.lst xs) ∧ -(2 ^ 63) ≤ k ∧ k < 2 ^ 63 ∧ xs.length * k.toNat ≤ sizeLine ∧
 ∀ p, H p = none → Q (.ref p) (upd H p (.lst (List.replicate k.toNat xs).flatten))
theorem b0o {α : Type} (xs : List α) (k : Nat) : (List.replicate k xs).flatten.length = k * xs.length := by
 induction k with
 | zero => simp
 | succ k ih => rw [List.replicate_succ, List.flatten_cons, List.length_append, ih, Nat.succ_mul, Nat.add_comm]
theorem c0x : OpR X (binaryOp .Mult) rRep := by
 intro pins s σ H x y v u Q I rx ry h
 obtain ⟨l, k, xs, rfl, rfl, hH, h1, h2, hz, q⟩ := h
 cases rx
 obtain ⟨t, rfl⟩ := ry
 obtain ⟨z, its, n, r, hl, e⟩ := I.lstM hH
 have hlen : its.toArray.size * k.toNat ≤ sizeLine := by rw [List.size_toArray, ← hl]; exact hz
 have hcap : ¬ its.toArray.size * k.toNat > (2 ^ 63 - 1) / 8 := by
  have : (sizeLine : Nat) ≤ (2 ^ 63 - 1) / 8 := by decide
  lia
 have hfit : ¬ (!Builtin.List.listFitsIndex k) = true := by
  rw [fitsIndex_both h1 h2]
  exact Bool.false_ne_true
 have hlong : ¬ Builtin.List.listTooLong (its.toArray.size * k.toNat) = true := by
  rw [b5Q hlen]
  exact Bool.false_ne_true
 have hnew : List.foldl (fun x1 x2 => x1 ++ x2) #[] (List.replicate (if its.toArray.isEmpty = true then 0 else k.toNat) its.toArray) = (List.replicate k.toNat its).flatten.toArray := by
  have f0 : ∀ m : Nat, List.foldl (fun x1 x2 => x1 ++ x2) #[] (List.replicate m its.toArray) = (List.replicate m its).flatten.toArray := fun m => by
   have := a5U its m []
   rw [List.nil_append] at this
   exact this
  rw [f0]
  cases its with
  | nil => simp
  | cons a r' => rw [if_neg (by simp)]
 refine wpAny_binaryOp_repeat_ref (T := "list") (U := "int") (by decide) ⟨_, e, rfl⟩ (fun s' => typeIs_int s' k t) noFill_list_mul F.fills_int_mul F.slot_int_rmul repeat_list F.slot_int_index.lookup
  (call_meets F.slot_int_rmul (typeIs_int s k t) F.entry_int_rmul (F.args_int_rmul_2 _ _) (int___rmul___int_list k t l its.toArray n)
   ⟨e, rfl, ⟨_, e, rfl⟩, call_meets F.slot_list_mul ⟨_, e, rfl⟩ F.entry_list_mul (F.args_list_mul_2 _ _) (AutoListH.list___mul___list_int_3 l its.toArray n k t hfit hcap hlong) ⟨e, ?_⟩⟩)
 rw [hnew]
 exact ⟨.ref _, _, I.lnew (t' := s.toks) (r.rep k.toNat) (by rw [b0o, Nat.mul_comm]; exact hz), rfl, q _ I.fresh⟩
end
section
variable {prog : Program} {w : World} {A : Around} {E : Value → Shared → Prop} {s : Shared}
end
section
variable {X : Cx}
end
end L2
namespace Att
open PySem PySem.W PySem.Calls PyProof.Rows
theorem a5R {P : Params} {h : Heap} : ∀ (ns : List Int) (vs : List Value), WellAll P h vs (ns.map WData.int) → IntsAre vs ns := by
 intro ns
 induction ns with
 | nil =>
   intro vs w
   rw [List.map_nil] at w
   cases w
   exact .nil
 | cons n ns ih =>
   intro vs w
   rw [List.map_cons] at w
   cases w with
   | cons a b =>
     cases a
     exact .cons _ _ (ih _ b)
theorem b3k {l : OpenLaw} {n : Nat} (hn : l.most = some n) {P : Params} {h : Heap} {args : List WData} {vals : List Value}
  (hpre : l.row.toRowW.claim.pre args = true) (hwl : WellAll P h vals args) :
  ∃ a vs ns, vals = [Value.ref a] ∧ args = [WData.list (ns.map WData.int)] ∧ h.get? a = some { cls := .type "list", data := .seq vs.toArray } ∧ IntsAre vs ns ∧ ns.length ≤ n := by
 have hsh : WShape.hasAll [] args [.list .int] = true := (pre_splitW hpre).1
 have hc : l.pre.holds [] { args := args } = true := (pre_splitW hpre).2
 obtain ⟨d, r, rfl, h1, h2⟩ := hasAllW_cons hsh
 obtain rfl := hasAllW_nil h2
 obtain ⟨xs, rfl, h3⟩ := hasW_list h1
 obtain ⟨ns, rfl⟩ := items_int h3
 have hlen : ns.length ≤ n := by
  unfold OpenLaw.pre at hc
  have h4 : (WTm.not (.lt (.lit (.int (n : Int))) (.len (.arg 0)))).holds [] { args := [.list (ns.map .int)] } = true := by
   have h4 := (holds_andW hc).1
   rw [hn] at h4
   exact h4
  have h5 := condW_of h4 (w_not (w_lt w_lit (w_len_list (w_arg rfl))))
  rw [List.length_map] at h5
  refine Nat.le_of_not_lt fun q => ?_
  have q' : (n : Int) < ((ns.length : Nat) : Int) := by lia
  first
   | (rw [decide_eq_true q'] at h5; exact absurd h5 (by decide))
   | (simp at h5; lia)
 cases hwl with
 | cons w1 w2 =>
   cases w2
   cases w1 with
   | list ho hall => exact ⟨_, _, ns, rfl, rfl, ho, a5R ns _ hall, hlen⟩
theorem b3w (l : OpenLaw) (args : List WData) : l.row.toRowW.claim.post args (.bool true) args = true :=
 postW_of (r := l.row.toRowW) (X := (true == true))
  (show WShape.has [] (.bool true) .bool = true by first | rfl | decide | simp [WShape.has, WShape.arms, WShape.armsAll])
  (show (WTm.eq .res (.lit (.bool true))).value [] { args := args, res := some (.bool true), after := args } = some (.bool (true == true)) from w_eq_bool (w_res rfl) w_lit) rfl
theorem attach_call {l : OpenLaw} {n : Nat} {q : Program} {loose : List Str} {XP : (Str → Option Value) → Heap → Prop} {YP : World → Heap → Prop} {d : DefRec}
  (hn : l.most = some n) (hdf : d.params.defaults = [])
  (call : ∀ (w : World) (s₀ s₁ : Shared) (mg mb : Str → Option Value) (fa : Addr) (o : Obj) (pm cd doc : Value) (a : Addr) (vs : List Value) (ns : List Int),
   Ground q loose [] XP w s₀ mg mb s₁.heap → YP w s₁.heap →
   s₁.heap.get? fa = some o → o.data = .func (docDef d.name d.params d.body d.scope pm cd doc) → s₁.heap.CodeRec cd d.name → mg d.name = some (.ref fa) →
   s₁.heap.get? a = some { cls := .type "list", data := .seq vs.toArray } → IntsAre vs ns → ns.length ≤ n → s₁.gens = #[] →
   codeAny (model l.prog w) callerA (.call (.ref fa) ⟨[.ref a], []⟩) (fun r s' => r = .ok (.ret (.bool true)) ∧ OldK s₁.heap s'.heap ∧ s'.os = s₁.os ∧ AllBare s'.gens) s₁) :
  WalkO q loose XP YP l.row.toRowW d [] (fun f vs => PySem.call f vs) := by
 intro w s₀ s₁ mg mb G Y fa o pm cd doc dV kV ho hd hcd hD hmg hg args vals as hpre hlay hrd hwl hlo
 obtain rfl : dV = .none := Dflts.none hD hdf
 obtain rfl : kV = .none := Dflts.noKw hD
 obtain ⟨a, vs, ns, rfl, rfl, hobj, hints, hlen⟩ := b3k hn hpre hwl
 refine enter_call (codeAny_mono (call w s₀ s₁ mg mb fa o pm cd doc a vs ns G Y ho (fd_plain hd) hcd hmg hobj hints hlen hg) fun r s' hq => ?_)
 obtain ⟨rfl, h2, h3, h4⟩ := hq
 exact ⟨.inl ⟨.bool true, .bool true, [], rfl, fun _ => rfl, .bool true, b3w l _, fun _ => ⟨List.Pairwise.nil, fun _ hm => (nomatch hm)⟩⟩, h2, h3, h4⟩
section
variable {prog : Program} {w : World} {A : Around} {E : Value → Shared → Prop} {s : Shared} {K : Frag}
end
end Att
namespace L2
open PySem PySem.Spec PyProof.Rows
theorem a5C : ∀ {vs : List Value} {ns : List Int}, IntsAre vs ns → Vals (ns.map V.int) vs
 | _, _, .nil => .nil
 | _, _, .cons n t h => .cons ⟨t, rfl⟩ (a5C h)
noncomputable def Only (H : Hp) : Prop := ∀ b, H b = none ∨ ∃ o xs, H b = some (.frz o (.lst xs))
theorem b5V {P : Program} {w : World} {K : PySem.W.Frag} {mg mb : Str → Option Value} {CX : CXT} {k : Nat} {fa a : Addr} {fd : FuncData} {x : Str} {sp : Sp} {s₁ : Shared} {vs : List Value} {ns : List Int}
  (KX : K.In s₁.heap) (hns : s₁.heap.Ns mainGlobals mg) (hb : s₁.heap.Ns builtinsNs mb) (hbb : ∀ x : Str, x ≠ "__name__" → mb x = bootBuiltins x) (hlim : s₁.heap.NoLimit) (hg : s₁.gens = #[])
  (ha : s₁.heap.get? a = some { cls := .type "list", data := .seq vs.toArray }) (hi : IntsAre vs ns) (hl : ns.length ≤ sizeLine) (hr : Room k callerA)
  (F : ∀ base : Heap, K.In base → base.Ns mainGlobals mg → FnOk P w K mg base CX k fa fd [x] sp) (hbind : ∀ (s : Shared) (u : Value), BindsTo s fd ⟨[u], []⟩ [(x, u)])
  (hsp : ∀ H : Hp, Only H → SqL K H a (ns.map V.int) → sp [.ref a] H (fun v _ => v = .bl true) fun _ _ _ => False)
  (hCX : ∀ H e s', CX [] H s₁ (fun _ _ _ => False) e s' → False) :
  codeAny (model P w) callerA (.call (.ref fa) ⟨[.ref a], []⟩) (fun r s' => r = .ok (.ret (.bool true)) ∧ OldK s₁.heap s'.heap ∧ s'.os = s₁.os ∧ AllBare s'.gens) s₁ := by
 have rv := a5C hi
 have lenV := hi.length
 -- from an abstract heap in which nothing but the script may be tracked
 have core : ∀ H : Hp, Only H → SqL K H a (ns.map V.int) → HOk P w H s₁.heap → (∀ b, H b ≠ none → b = a) → (H a ≠ none → K.lookup a = none) →
   codeAny (model P w) callerA (.call (.ref fa) ⟨[.ref a], []⟩) (fun r s' => r = .ok (.ret (.bool true)) ∧ OldK s₁.heap s'.heap ∧ s'.os = s₁.os ∧ AllBare s'.gens) s₁ := by
  intro H hO hS hok hA hK
  have base_of : ∀ {b : Addr} {o : Obj}, s₁.heap.get? b = some o → H b = none → (hidT s₁.heap H).get? b = some o := fun e n => b6f e n
  have noA : ∀ {b : Addr} {o : Obj} {es : Array DictEntry} {ep : Nat}, s₁.heap.get? b = some o → o.data = .dict es ep → H b = none := fun {b o es ep} e d => by
   cases q : H b with
   | none => rfl
   | some u =>
     have e' : b = a := hA b (by rw [q]; simp)
     subst e'
     rw [ha] at e; cases e
     have d' : Data.seq vs.toArray _ = Data.dict es ep := d
     cases d'
  have nsK : ∀ {b : Addr} {m : Str → Option Value}, s₁.heap.Ns b m → (hidT s₁.heap H).Ns b m := fun {b m} ⟨o, es, ep, e, d, r⟩ => ⟨o, es, ep, base_of e (noA e d), d, r⟩
  have hKb : K.In (hidT s₁.heap H) := fun b o e => base_of (KX b o e) (by
   cases q : H b with
   | none => rfl
   | some u =>
     have e' : b = a := hA b (by rw [q]; simp)
     subst e'
     rw [hK (by rw [q]; simp)] at e; cases e)
  have hM : Mod K mg (hidT s₁.heap H) := ⟨hKb, nsK hns, ⟨mb, nsK hb, hbb⟩, let ⟨mc, h1, h2⟩ := hlim; ⟨mc, nsK h1, h2⟩⟩
  have e0 : Env0 P w K mg (hidT s₁.heap H) callerA [] s₁ H := ⟨rfl, hM, fun b o e => b8v e, Nat.le_of_eq (b4d _ _), trivial, fun b hb => absurd (show b ∈ ([] : List Addr) from hb) (by simp), hok, .of_eq hg⟩
  refine codeAny_mono ((F _ hKb (nsK hns)).run callerA [] s₁ H ⟨[.ref a], []⟩ [.ref a] [.ref a] _ _ hr e0 (hbind s₁ (.ref a)) (.cons rfl .nil) (hsp H hO hS)) fun r s' h => ?_
  cases r with
  | error e => exact (hCX H e s' h).elim
  | ok fl =>
    cases fl with
    | next => exact False.elim h
    | brk => exact False.elim h
    | cont => exact False.elim h
    | ret u =>
      obtain ⟨v, H', os, bare, un, hok', r', q⟩ := h
      have q' : v = .bl true := q
      subst q'
      obtain rfl : u = Value.bool true := r'
      refine ⟨rfl, OldK.of_keep fun b o e => ?_, os, bare⟩
      cases q : H b with
      | none => exact un.keep b o e q (by intro z; exact absurd (show b ∈ ([] : List Addr) from z) (by simp)) (by simp)
      | some u =>
        rcases hO b with z | ⟨ob, xs, z⟩
        ·rw [q] at z; cases z
        ·have z2 := un.frzs b ob _ z
         obtain ⟨e1, _⟩ := hok b _ z
         obtain ⟨e2, _⟩ := hok' b _ z2
         rw [e] at e1; cases e1
         exact e2
 cases hk : K.lookup a with
 | some o =>
   -- the script is one of the module's own objects
   have e := KX a o hk
   rw [ha] at e
   cases e
   refine core (fun _ => none) (fun _ => .inl rfl) (.inr ⟨_, vs.toArray, _, hk, rfl, rfl, rfl, by rw [List.size_toArray, lenV]; exact hl, by simpa using rv⟩) (fun b u z => by have z' : (none : Option HO) = some u := z; cases z') (fun b z => absurd rfl z) fun z => absurd rfl z
 | none =>
   refine core (fun b => if b = a then some (.frz { cls := .type "list", data := .seq vs.toArray } (.lst (ns.map V.int))) else none) (fun b => ?_) (.inl (.inr ⟨{ cls := .type "list", data := .seq vs.toArray }, if_pos rfl⟩)) (fun b u z => ?_) (fun b z => ?_) fun _ => hk
   ·by_cases hb : b = a
    ·exact .inr ⟨_, _, if_pos hb⟩
    ·exact .inl (if_neg hb)
   ·by_cases hb : b = a
    ·have z' := (if_pos hb).symm.trans z
     cases z'
     subst hb
     exact ⟨ha, by rw [List.length_map]; exact hl, vs, _, rv, ha⟩
    ·have z' := (if_neg hb).symm.trans z
     cases z'
   ·by_cases hb : b = a
    ·exact hb
    ·exact absurd (if_neg hb) z
theorem b7q {l : PySem.W.OpenLaw} {n k : Nat} {q : Program} {loose : List Str} {XP : (Str → Option Value) → Heap → Prop} {YP : World → Heap → Prop} {d : DefRec} {K : Params → PySem.W.Frag} {CX : World → CXT} {sp : World → Sp} {x : Str}
  (hn : l.most = some n) (hn2 : n ≤ sizeLine) (hdf : d.params.defaults = []) (hr : Room k callerA)
  (hY : ∀ (w : World) (h : Heap), YP w h → (K w.params).In h)
  (F : ∀ (w : World) (mg : Str → Option Value) (fa : Addr) (h : Heap), (K w.params).In h → h.Ns mainGlobals mg → mg d.name = some (.ref fa) →
   ∃ fd : FuncData, (∀ (s : Shared) (u : Value), BindsTo s fd ⟨[u], []⟩ [(x, u)]) ∧
     ∀ base : Heap, (K w.params).In base → base.Ns mainGlobals mg → FnOk l.prog w (K w.params) mg base (CX w) k fa fd [x] (sp w))
  (hsp : ∀ (w : World) (H : Hp) (a : Addr) (ns : List Int), ns.length ≤ n → Only H → SqL (K w.params) H a (ns.map V.int) → sp w [.ref a] H (fun v _ => v = .bl true) fun _ _ _ => False)
  (hCX : ∀ (w : World) (H : Hp) (s : Shared) (e : Value) (s' : Shared), CX w [] H s (fun _ _ _ => False) e s' → False) :
  PySem.W.WalkO q loose XP YP l.row.toRowW d [] (fun f vs => PySem.call f vs) := by
 refine Att.attach_call hn hdf fun w s₀ s₁ mg mb fa o pm cd doc a vs ns G Y ho hd hcd hmg hobj hints hlen hg => ?_
 have KX := hY w _ Y
 obtain ⟨fd, hb, hF⟩ := F w mg fa _ KX G.T.g hmg
 exact b5V KX G.T.g G.T.b G.T.builtins G.T.nolimit hg hobj hints (Nat.le_trans hlen hn2) hr hF hb (fun H hO hS => hsp w H a ns hlen hO hS) fun H e s' => hCX w H s₁ e s'
noncomputable def a0u (s : Stmt) : Arguments := match s with
 | .FunctionDef _ a _ _ _ _ _ _ _ _ => a
 | _ => { posonlyargs := [], args := [], vararg := none, kwonlyargs := [], kw_defaults := [], kwarg := none, defaults := [] }
noncomputable def a0q (s : Stmt) : List Stmt := match s with
 | .FunctionDef _ _ b _ _ _ _ _ _ _ => b
 | _ => []
noncomputable def a0b (s : Stmt) : Scope := match s with
 | .FunctionDef _ _ _ _ _ _ sc _ _ _ => sc
 | _ => { kind := .function, names := [], isGenerator := false, isCoroutine := false }
noncomputable abbrev CX0 : CXT := fun _ _ _ _ _ _ => False
noncomputable abbrev E0 : XK := fun _ _ _ => False
theorem c1P {X : Cx} : b5g CX0 X E0 := fun _ _ _ _ _ _ _ h => h.elim
structure Fun (K : PySem.W.Frag) (x qual : Str) (st : Stmt) (f : Addr) (fd : FuncData) : Prop where
 ex : ∃ (oc : Value) (od : Option Addr) (kV doc pm : Value) (an : Option Addr) (cdv ct : Value) (osl : Array (Option Value)),
  fd = PySem.W.fnOf x qual (a0u st) (a0q st) (a0b st) .none kV doc pm an cdv ct ∧ K.lookup f = some ⟨oc, od, .func fd, osl⟩ ∧ PySem.W.codeIn K cdv qual = true
 kp : PySem.W.keepIn K (.ref f) = true
section
variable {P : Program} {w : World} {K : PySem.W.Frag} {mg : Str → Option Value} {base : Heap}
theorem Fun.ok {x qual : Str} {st : Stmt} {f : Addr} {fd : FuncData} {N ps : List Str} {k : Nat} {sp : Sp} (F : Fun K x qual st f fd) (S : FnScope N ps (a0b st)) (len : ∀ vs H Q E, sp vs H Q E → vs.length = ps.length)
  (hbody : ∀ (cdv : Value) (A : Around) (outer : List Env) (s : Shared) (H : Hp) (vs : List V) (Q : VK) (E : XK), Room k (A.deeper (envOfC qual (a0b st) s.heap.objs.size f cdv)) → sp vs H Q E →
   ∃ t, PSs (cxOf CX0 P w K mg base N qual (a0b st) f cdv A outer s H E).nox (a0q st) t ∧ t { nx := fun _ H' => Q .non H', rt := Q } (start N vs) H) : FnOk P w K mg base CX0 (k + 1) f fd ps sp := by
 obtain ⟨oc, od, kV, doc, pm, an, cdv, ct, osl, rfl, lk, hcd⟩ := F.ex
 refine c2f lk hcd S len fun A outer s H vs Q E hr hsp => ?_
 obtain ⟨t, h, q⟩ := hbody cdv A outer s H vs Q E hr hsp
 exact ⟨t, h.nox, q⟩
theorem Fun.binds {x qual : Str} {st : Stmt} {f : Addr} {fd : FuncData} {ps : List Str} (F : Fun K x qual st f fd)
  (h : ∀ (kV doc pm : Value) (an : Option Addr) (cdv ct : Value) (us : List Value), us.length = ps.length → bindArgs (PySem.W.fnOf x qual (a0u st) (a0q st) (a0b st) .none kV doc pm an cdv ct) ⟨us, []⟩ = pure (ps.zip us)) : a1K K fd ps [] := by
 obtain ⟨oc, od, kV, doc, pm, an, cdv, ct, osl, rfl, lk, hcd⟩ := F.ex
 exact .all (h kV doc pm an cdv ct)
theorem a1g {x qual : Str} {st : Stmt} {f : Addr} {oc : Value} {od an : Option Addr} {osl : Array (Option Value)} {kV doc pm cdv ct : Value} (l : K.lookup f = some ⟨oc, od, .func (PySem.W.fnOf x qual (a0u st) (a0q st) (a0b st) .none kV doc pm an cdv ct), osl⟩)
  (c : PySem.W.codeIn K cdv qual = true) (k : PySem.W.keepIn K (.ref f) = true) : Fun K x qual st f (PySem.W.fnOf x qual (a0u st) (a0q st) (a0b st) .none kV doc pm an cdv ct) := ⟨⟨oc, od, kV, doc, pm, an, cdv, ct, osl, rfl, l, c⟩, k⟩
end
section
variable {X : Cx}
end
theorem ite2 {c A B : Prop} [Decidable c] (h1 : c → A) (h2 : ¬ c → B) : if c then A else B := by
 by_cases h : c
 ·rw [if_pos h]
  exact h1 h
 ·rw [if_neg h]
  exact h2 h
end L2
set_option maxHeartbeats 0
namespace L2
open PySem PySem.Spec PyProof.Rows
section
variable {κ : Type} [DecidableEq κ]
noncomputable def valV (kvs : List (κ × V)) (k : κ) : Option V := (kvs.find? fun kv => decide (kv.1 = k)).map (·.2)
noncomputable def putK (kvs : List (κ × V)) (k : κ) (v : V) : List (κ × V) :=
 if (kvs.any fun kv => decide (kv.1 = k)) = true then kvs.map (fun kv => if kv.1 = k then (kv.1, v) else kv) else kvs ++ [(k, v)]
theorem a7c {p : κ × V} {r : List (κ × V)} {k : κ} (e : p.1 = k) : valV (p :: r) k = some p.2 := by simp [valV, List.find?_cons, e]
theorem a7d {p : κ × V} {r : List (κ × V)} {k : κ} (e : ¬ p.1 = k) : valV (p :: r) k = valV r k := by simp [valV, List.find?_cons, e]
theorem b0P (k : κ) : ∀ kvs : List (κ × V), (kvs.any fun kv => decide (kv.1 = k)) = (valV kvs k).isSome
 | [] => rfl
 | p :: r => by
   rw [List.any_cons]
   by_cases e : p.1 = k
   ·simp only [a7c e, decide_eq_true e, Bool.true_or, Option.isSome_some]
   ·rw [a7d e, decide_eq_false e, Bool.false_or]; exact b0P k r
theorem a5P (kvs : List (κ × V)) (k : κ) (v : V) : (putK kvs k v).length ≤ kvs.length + 1 := by
 unfold putK
 split
 ·rw [List.length_map]; lia
 ·rw [List.length_append, List.length_cons, List.length_nil]; lia
theorem RelO.isSome_eq {o : Option V} {u : Option Value} (r : RelO o u) : o.isSome = u.isSome := by
 cases o with
 | none => cases u with
   | none => rfl
   | some _ => exact (show False from r).elim
 | some _ => cases u with
   | none => exact (show False from r).elim
   | some _ => rfl
theorem RelO.getD {o : Option V} {u : Option Value} {d : V} {d' : Value} (r : RelO o u) (rd : RelV d d') : RelV (o.getD d) (u.getD d') := by
 cases o with
 | none => cases u with
   | none => exact rd
   | some _ => exact (show False from r).elim
 | some _ => cases u with
   | none => exact (show False from r).elim
   | some _ => exact r
theorem KV.val {kvs : List (κ × V)} {vs : List (κ × Value)} (r : KV kvs vs) (k : κ) : RelO (valV kvs k) (valueAt vs k) := by
 unfold KV at r
 induction r with
 | nil => exact True.intro
 | @cons p q ps qs h t ih =>
   obtain ⟨h1, h2⟩ := h
   by_cases e : p.1 = k
   ·have e' : q.1 = k := h1.symm.trans e
    have b : valueAt (q :: qs) k = some q.2 := by simp [valueAt, List.find?_cons, e']
    rw [a7c e, b]; exact h2
   ·have e' : ¬ q.1 = k := fun z => e (h1.trans z)
    have b : valueAt (q :: qs) k = valueAt qs k := by simp [valueAt, List.find?_cons, e']
    rw [a7d e, b]; exact ih
theorem KV.any {kvs : List (κ × V)} {vs : List (κ × Value)} (r : KV kvs vs) (k : κ) : (kvs.any fun kv => decide (kv.1 = k)) = vs.any fun kv => decide (kv.1 = k) := by
 unfold KV at r
 induction r with
 | nil => rfl
 | cons h t ih => rw [List.any_cons, List.any_cons, ih, h.1]
theorem KV.repl {kvs : List (κ × V)} {vs : List (κ × Value)} (r : KV kvs vs) (k : κ) {y : V} {u : Value} (ry : RelV y u) :
  KV (kvs.map fun kv => if kv.1 = k then (kv.1, y) else kv) (vs.map fun kv => if kv.1 = k then (kv.1, u) else kv) := by
 unfold KV at r ⊢
 induction r with
 | nil => exact .nil
 | @cons p q ps qs h t ih =>
   rw [List.map_cons, List.map_cons]
   refine .cons ?_ ih
   obtain ⟨h1, h2⟩ := h
   by_cases e : p.1 = k
   ·rw [if_pos e, if_pos (h1.symm.trans e)]; exact ⟨h1, ry⟩
   ·rw [if_neg e, if_neg (fun z => e (h1.trans z))]; exact ⟨h1, h2⟩
theorem KV.put {kvs : List (κ × V)} {vs : List (κ × Value)} (r : KV kvs vs) (k : κ) {y : V} {u : Value} (ry : RelV y u) : KV (putK kvs k y) (stored vs k u) := by
 unfold putK stored
 rw [r.any k]
 by_cases e : (vs.any fun kv => decide (kv.1 = k)) = true
 ·rw [if_pos e, if_pos e]; exact r.repl k ry
 ·rw [if_neg e, if_neg e]; exact Paired.snoc r ⟨rfl, ry⟩
theorem KV.keys {kvs : List (κ × V)} {vs : List (κ × Value)} (r : KV kvs vs) : kvs.map (·.1) = vs.map (·.1) := by
 unfold KV at r
 induction r with
 | nil => rfl
 | cons h t ih => rw [List.map_cons, List.map_cons, ih, h.1]
theorem KV.length {kvs : List (κ × V)} {vs : List (κ × Value)} (r : KV kvs vs) : kvs.length = vs.length := Paired.length r
end
theorem b5Y {P : Program} {w : World} {k : Key} {u : Value} (r : RelV (kV k) u) : (a0m P w).is k u = true := by
 cases k with
 | inl i => obtain ⟨t, e⟩ := (show ∃ t, u = Value.int i t from r); subst e; exact b0n P w i t
 | inr x => obtain ⟨t, e⟩ := (show ∃ t, u = Value.str x t from r); subst e; exact b0m P w x t
theorem a8Y {P : Program} {w : World} : ∀ {ks : List Key} {us : List Value}, Vals (ks.map kV) us → ItemsAre (a0m P w) ks us
 | [], _, r => by rw [List.map_nil] at r; cases r; exact .nil
 | k :: ks, _, r => by
   rw [List.map_cons] at r
   cases r with
   | cons h t => exact .cons (b5Y h) (a8Y t)
noncomputable abbrev KT (H : Hp) : List (List Key × V) → List (List Key × Addr × Value) → Prop := Paired fun p q => p.1 = q.1 ∧ H q.2.1 = some (.tup (p.1.map kV)) ∧ RelV p.2 q.2.2
theorem KT.val {H : Hp} {kvs : List (List Key × V)} {xs : List (List Key × Addr × Value)} (r : KT H kvs xs) (k : List Key) : RelO (valV kvs k) ((atKey xs k).map (·.2)) := by
 induction r with
 | nil => exact True.intro
 | @cons p q ps qs h t ih =>
   obtain ⟨h1, _, h2⟩ := h
   by_cases e : p.1 = k
   ·have e' : q.1 = k := h1.symm.trans e
    have b : atKey (q :: qs) k = some q.2 := by simp [atKey, List.find?_cons, e']
    rw [a7c e, b]; exact h2
   ·have e' : ¬ q.1 = k := fun z => e (h1.trans z)
    have b : atKey (q :: qs) k = atKey qs k := by simp [atKey, List.find?_cons, e']
    rw [a7d e, b]; exact ih
theorem KT.repl {H : Hp} {kvs : List (List Key × V)} {xs : List (List Key × Addr × Value)} (r : KT H kvs xs) (k : List Key) {y : V} {u : Value} (ry : RelV y u) :
  KT H (kvs.map fun kv => if kv.1 = k then (kv.1, y) else kv) (xs.map (putAt k u)) := by
 induction r with
 | nil => exact .nil
 | @cons p q ps qs h t ih =>
   rw [List.map_cons, List.map_cons]
   refine .cons ?_ ih
   obtain ⟨h1, h2, h3⟩ := h
   unfold putAt
   by_cases e : p.1 = k
   ·rw [if_pos e, if_pos (h1.symm.trans e)]; exact ⟨h1, h2, ry⟩
   ·rw [if_neg e, if_neg (fun z => e (h1.trans z))]; exact ⟨h1, h2, h3⟩
theorem KT.put {H : Hp} {kvs : List (List Key × V)} {xs : List (List Key × Addr × Value)} (r : KT H kvs xs) (k : List Key) {b : Addr} {y : V} {u : Value} (hb : H b = some (.tup (k.map kV))) (ry : RelV y u) :
  KT H (putK kvs k y) (storedH xs k b u) := by
 have e : (kvs.any fun kv => decide (kv.1 = k)) = (atKey xs k).isSome := by
  rw [b0P, (r.val k).isSome_eq, Option.isSome_map]
 unfold putK storedH
 rw [e]
 by_cases q : (atKey xs k).isSome = true
 ·rw [if_pos q, if_pos q]; exact r.repl k ry
 ·rw [if_neg q, if_neg q]; exact Paired.snoc r ⟨rfl, hb, ry⟩
theorem KT.keeps {H H' : Hp} {kvs : List (List Key × V)} {xs : List (List Key × Addr × Value)} (r : KT H kvs xs) (ht : ∀ b ys, H b = some (.tup ys) → H' b = some (.tup ys)) : KT H' kvs xs :=
 Paired.mapP r fun _ _ z => ⟨z.1, ht _ _ z.2.1, z.2.2⟩
section
variable {P : Program} {w : World} {H : Hp} {h : Heap} {a : Addr}
theorem c0e {u : HO} (ok : HOk P w H h) (e : Rd H a u) : a1P P w H h a u := e.ok ok
theorem b4D {kvs : List (Key × V)} (ok : HOk P w H h) (e : Rd H a (.dK kvs)) : kvs.length ≤ sizeLine ∧ (a == sysModules) = false ∧ ∃ vs, KV kvs vs ∧ h.DictOf (a0m P w) a vs :=
 show a1P P w H h a (.dK kvs) from c0e ok e
theorem c2i {kvs : List (Key × V)} (ok : HOk P w H h) (e : H a = some (.dK kvs)) : kvs.length ≤ sizeLine ∧ (a == sysModules) = false ∧ ∃ vs, KV kvs vs ∧ h.DictOf (a0m P w) a vs := b4D ok (.inl e)
theorem b1q {ks : List Key} (ok : HOk P w H h) (e : H a = some (.tup (ks.map kV))) : (tupleKind (a0m P w)).is h ks a := by
 obtain ⟨_, its, r, o, h1, h2, _, n, h3⟩ := (show a1P P w H h a (.tup (ks.map kV)) from ok a _ e)
 exact ⟨o, its.toArray, n, h1, h2, h3, by simpa using a8Y r⟩
theorem b4B {kvs : List (List Key × V)} (ok : HOk P w H h) (e : Rd H a (.dT kvs)) : kvs.length ≤ sizeLine ∧ (a == sysModules) = false ∧
  ∃ xs, KT H kvs xs ∧ h.DictOfH (tupleKind (a0m P w)) a xs := by
 obtain ⟨z, y, xs, r, o, es, ep, h1, h2, h3, h4, h5⟩ := (show a1P P w H h a (.dT kvs) from c0e ok e)
 refine ⟨z, y, xs, r, o, es, ep, h1, h2, h3, h4, fun x hx => ?_, h5⟩
 have all : ∀ {l : List (List Key × V)} {m : List (List Key × Addr × Value)}, KT H l m → ∀ x ∈ m, (tupleKind (a0m P w)).is h x.1 x.2.1 := by
  intro l m q
  induction q with
  | nil => intro x hx; exact nomatch hx
  | @cons p q ps qs hq t ih =>
    intro x hx
    rcases List.mem_cons.mp hx with e | hx
    ·subst e
     exact b1q ok (by rw [← hq.1]; exact hq.2.1)
    ·exact ih x hx
 exact all r x hx
theorem c2h {kvs : List (List Key × V)} (ok : HOk P w H h) (e : H a = some (.dT kvs)) : kvs.length ≤ sizeLine ∧ (a == sysModules) = false ∧
  ∃ xs, KT H kvs xs ∧ h.DictOfH (tupleKind (a0m P w)) a xs := b4B ok (.inl e)
end
noncomputable def DGet (H : Hp) (a : Addr) (y : V) (r : Option V) : Prop :=
 (∃ kvs k, Rd H a (.dK kvs) ∧ y = kV k ∧ r = valV kvs k) ∨ ∃ kvs k b, Rd H a (.dT kvs) ∧ y = .ref b ∧ H b = some (.tup (k.map kV)) ∧ r = valV kvs k
noncomputable def DPut (H : Hp) (a : Addr) (y v : V) (H' : Hp) : Prop :=
 (∃ kvs k, H a = some (.dK kvs) ∧ y = kV k ∧ kvs.length < sizeLine ∧ H' = upd H a (.dK (putK kvs k v))) ∨
 ∃ kvs k b, H a = some (.dT kvs) ∧ y = .ref b ∧ H b = some (.tup (k.map kV)) ∧ kvs.length < sizeLine ∧ H' = upd H a (.dT (putK kvs k v))
theorem DGet.k {H : Hp} {a : Addr} {kvs : List (Key × V)} {k : Key} (e : H a = some (.dK kvs)) : DGet H a (kV k) (valV kvs k) := .inl ⟨kvs, k, .inl e, rfl, rfl⟩
theorem DPut.k {H : Hp} {a : Addr} {kvs : List (Key × V)} {k : Key} {v : V} (e : H a = some (.dK kvs)) (hl : kvs.length < sizeLine) : DPut H a (kV k) v (upd H a (.dK (putK kvs k v))) := .inl ⟨kvs, k, e, rfl, hl, rfl⟩
section
variable {X : Cx} {pins : List (Addr × Obj)} {σ : St} {H : Hp} {s : Shared} {a : Addr} {y v : V} {u r : Value} {o : Option V} {A : Around} {E : Value → Shared → Prop}
theorem Inv.big (I : Inv X pins σ H s) : sysModules < s.heap.objs.size := by
 have h : mainGlobals < s.heap.objs.size := (I.mod.glob.keeps I.bk).lt
 exact Nat.lt_trans (by decide) h
theorem b4K {Q : Value → Shared → Prop} (hu : A.units + 1 < cLine) (I : Inv X pins σ H s) (g : DGet H a y (some v)) (ry : RelV y u) (h : ∀ w' s', Inv X pins σ H s' → RelV v w' → Q w' s') :
  wpAny (model X.prog X.w) A (getItem (.ref a) u) Q E s := by
 rcases g with ⟨kvs, k, e, ey, l⟩ | ⟨kvs, k, b, e, ey, eb, l⟩
 ·subst ey
  obtain ⟨z, hd, vs, rel, dd⟩ := b4D I.hok e
  obtain ⟨w', hw, rw'⟩ := RelO.some_of (v := v) (o := valueAt vs k) (by rw [l]; exact rel.val k)
  exact wpAny_getItem_of (b5Y ry) dd.mapOf hw (h w' _ (I.tok _) rw')
 ·subst ey
  cases (show u = Value.ref b from ry)
  obtain ⟨z, hd, xs, rel, dd⟩ := b4B I.hok e
  obtain ⟨w', hw, rw'⟩ := RelO.some_of (v := v) (o := (atKey xs k).map (·.2)) (by rw [l]; exact rel.val k)
  obtain ⟨p, hp, hp2⟩ := Option.map_eq_some_iff.mp hw
  refine wpAny_getItem_heap (tupleKind_room_in1 hu) (b1q I.hok eb) dd hp ?_
  rw [hp2]
  exact h w' _ (I.tok _) rw'
theorem b4I {h' : Heap} {t' : Nat} {ob : HO} (I : Inv X pins σ H s) (mu : Mut (H a)) (hs : Heap.SameBut a s.heap h') (he : ∃ q, h'.get? a = some q) (new : a1P X.prog X.w (upd H a ob) h' a ob) :
  Inv X pins σ (upd H a ob) { s with heap := h', toks := t' } :=
 I.write (x := a) (e := a) mu (.inl rfl) (fun b q hb z => (hs.2 b hb).trans z) he new
theorem c1a {P : Program} {w : World} {H' : Hp} {h' : Heap} {kvs : List (Key × V)} {vs : List (Key × Value)} (z : kvs.length ≤ sizeLine) (hd : (a == sysModules) = false) (rel : KV kvs vs) (dd : h'.DictOf (a0m P w) a vs) :
  a1P P w H' h' a (.dK kvs) := ⟨z, hd, vs, rel, dd⟩
theorem b4J {H' : Hp} {Q : Unit → Shared → Prop} (hu : A.units + 1 < cLine) (I : Inv X pins σ H s) (g : DPut H a y v H') (ry : RelV y u) (rv : RelV v r) (h : ∀ s', Inv X pins σ H' s' → Q () s') :
  wpAny (model X.prog X.w) A (setItem (.ref a) u r) Q E s := by
 rcases g with ⟨kvs, k, e, ey, l, eH⟩ | ⟨kvs, k, b, e, ey, eb, l, eH⟩
 ·subst ey eH
  obtain ⟨z, hd, vs, rel, dd⟩ := c2i I.hok e
  have hz : vs.length ≤ sizeLine := by rw [← rel.length]; exact z
  have hl : (putK kvs k v).length ≤ sizeLine := by have := a5P kvs k v; lia
  refine wpAny_setItem_pairs (hsz := hz) (b5Y ry) dd fun h' dd' hs => h _ ?_
  have he : ∃ q, h'.get? a = some q := let ⟨q, _, _, hq, _⟩ := dd'; ⟨q, hq⟩
  exact b4I I (by rw [e]; exact True.intro) hs he (c1a hl hd (rel.put k rv) dd')
 ·subst ey eH
  cases (show u = Value.ref b from ry)
  obtain ⟨z, hd, xs, rel, dd⟩ := c2h I.hok e
  have hz : xs.length ≤ sizeLine := by rw [← Paired.length rel]; exact z
  have hl : (putK kvs k v).length ≤ sizeLine := by have := a5P kvs k v; lia
  refine wpAny_setItem_heap (hsz := hz) (tupleKind_room_in1 hu) (b1q I.hok eb) dd fun h' dd' hs => h _ ?_
  obtain ⟨q, es, ep, hq, h2, h3, h4, _, h5⟩ := dd'
  refine b4I I (by rw [e]; exact True.intro) hs ⟨q, hq⟩ ⟨hl, hd, _, (rel.put k eb rv).keeps fun c ys ec => ?_, q, es, ep, hq, h2, h3, h4, h5⟩
  rw [a0p (c1U ec e (fun z => nomatch z))]
  exact ec
end
section
variable {X : Cx} {pins : List (Addr × Obj)} {σ : St} {H : Hp} {s : Shared} {a : Addr} {kvs : List (Key × V)} {k : Key} {u : Value} {A : Around} {E : Value → Shared → Prop}
end
noncomputable def NoSl (i : Expr) : Prop := ∀ ov iv, subscripted i false ov iv = operate [ov, iv] (getItem ov iv)
theorem b7z {prog : Program} {w : World} {A : Around} {E : Value → Shared → Prop} {s : Shared} {env : Env} {value slice : Expr} {pos : Pos} {T id : String} {Q : Value → Shared → Prop}
  (hl : typeLookup (.type T) "__getitem__" = pure (some (.builtin id))) (hs : NoSl slice)
  (h : wpAny (model prog w) A (eval value env) (fun o s₁ => wpAny (model prog w) A (eval slice env) (fun i s₂ => s₂.TypeIs o T ∧ wpAny (model prog w) A (getItem o i) Q E s₂) E s₁) E s) :
  wpAny (model prog w) A (eval (.Subscript value slice pos) env) Q E s := by
 refine Subscript_ (wpAny_mono h (fun o s₁ h₁ => wpAny_mono h₁ (fun i s₂ h₂ => ?_) fun _ _ x => x) fun _ _ x => x)
 obtain ⟨hT, h₂⟩ := h₂
 unfold subscriptTail
 refine wpAny_bind ?_
 rw [getitemInPython_of_ne hT.not_modules]
 refine wpAny_bind (wpAny_specialOf hT hl ?_)
 have fin : wpAny (model prog w) A (subscripted slice false o i) (fun r s₃ => wpAny (model prog w) A (letTemporaryGo value o r >>= fun _ => pure r) Q E s₃) E s₂ := by
  rw [hs o i]
  exact wpAny_operating (wpAny_mono h₂ (fun r s₃ h₃ => wpAny_bind (wpAny_letTemporaryGo (wpAny_pure h₃))) fun _ _ x => x)
 first
  | exact wpAny_pure (wpAny_bind fin)
  | exact wpAny_bind (wpAny_pure (wpAny_bind fin))
  | exact wpAny_bind fin
theorem b0y {X : Cx} {pins : List (Addr × Obj)} {σ : St} {H : Hp} {s : Shared} {a : Addr} {y : V} {o : Option V} (I : Inv X pins σ H s) (g : DGet H a y o) : s.TypeIs (.ref a) "dict" := by
 rcases g with ⟨kvs, k, e, _, _⟩ | ⟨kvs, k, b, e, _, _, _⟩
 ·obtain ⟨_, _, vs, _, dd⟩ := b4D I.hok e
  exact dd.typeIs
 ·obtain ⟨_, _, xs, _, dd⟩ := b4B I.hok e
  exact dd.typeIs
noncomputable def c1y (td ty : TE) : TE := fun σ H Q => td σ H fun x H1 => ty σ H1 fun y H2 => ∃ a v, x = .ref a ∧ DGet H2 a y (some v) ∧ Q v H2
noncomputable def c1C (td ty tv : TE) : TS := fun D σ H => tv σ H fun v H1 => td σ H1 fun x H2 => ty σ H2 fun y H3 => ∃ a H4, x = .ref a ∧ DPut H3 a y v H4 ∧ D.nx σ H4
section
variable {X : Cx} {o i e value : Expr} {pos pos' tpos : Pos} {td ty tv : TE}
theorem b3D (hu : X.A.units + 1 < cLine) (ho : PE X o td) (hi : PE X i ty) (hs : NoSl i) : PE X (.Subscript o i pos) (c1y td ty) := by
 intro pins s σ H Q I h
 refine b7z PySem.F.slot_dict_getitem.lookup hs (thn (ho pins s σ H _ I h) fun u s1 ⟨x, H1, I1, rx, q1⟩ => thn (hi pins s1 σ H1 _ I1 q1) fun iv s2 ⟨y, H2, I2, ry, a, v, ex, g, q2⟩ => ?_)
 subst ex
 obtain rfl : u = Value.ref a := rx
 exact ⟨b0y I2 g, b4K hu I2 g ry fun w' s3 I3 rw' => ⟨v, H2, I3, rw', q2⟩⟩
theorem b8i (hu : X.A.units + 1 < cLine) (ho : PE X o td) (hi : PE X i ty) (hv : PE X value tv) (hs : swapsWith value (some (.Subscript o i pos')) pos.line X.env = pure false) :
  PS X (.Assign [.Subscript o i pos'] value pos) (c1C td ty tv) := by
 intro pins s σ H D I h
 refine wpAny_Assign_Subscript (thn (hv pins s σ H _ I h) fun r s1 ⟨v, H1, I1, rv, q1⟩ => thn (ho pins s1 σ H1 _ I1 q1) fun u s2 ⟨x, H2, I2, rx, q2⟩ => thn (hi pins s2 σ H2 _ I2 q2) fun iv s3 ⟨y, H3, I3, ry, a, H4, ex, g, q3⟩ => ?_) hs
 subst ex
 obtain rfl : u = Value.ref a := rx
 exact b4J hu I3 g ry rv fun s4 I4 => ⟨σ, H4, I4, q3⟩
end
theorem b6s {P : Program} {w : World} {H : Hp} (h : Heap) (hb : sysModules < h.objs.size) : a1P P w H (h.push { cls := .type "dict", data := .dict #[] }) h.objs.size (.dK []) :=
 ⟨Nat.zero_le _, beq_eq_false_iff_ne.mpr (Ne.symm (Nat.ne_of_lt hb)), [], .nil, Heap.DictOf.new h⟩
noncomputable def b9S : TE := fun _ H Q => ∀ p, H p = none → Q (.ref p) (upd H p (.dK []))
section
variable {X : Cx} {pos : Pos}
theorem b5H : PE X (.Dict [] [] pos) b9S := fun pins s σ H Q I h =>
 wpAny_Dict_empty ⟨.ref s.heap.objs.size, _, I.laid (a := s.heap.objs.size) (o := .dK []) (t' := s.toks) (fun _ _ q => Heap.get?_push_of_some _ q) (Nat.le_refl _) (b6s s.heap I.big), rfl, h _ (I.hok.fresh (Nat.le_refl _))⟩
end
structure M1 (X : Cx) (o : Expr) (m : Str) (apos : Pos) (e : Expr) (cpos : Pos) : Prop where
 base : attributeBase o m X.env (eval o X.env) = eval o X.env
 few : ((backTo cpos (starEach [e] X.env)).all (fun x => !x.1) && (backToKw cpos (keywordEach [] X.env)).all (fun x => x.1.isSome)
  && decide (([e] : List Expr).length + ([] : List Keyword).length + (if ([] : List Keyword).isEmpty then 0 else 1) < 30)) = true
 line : (apos.endLine == cpos.line) = true
 trees : backTo cpos (starEach [e] X.env) = [(false, eval e X.env)]
structure M2 (X : Cx) (o : Expr) (m : Str) (apos : Pos) (e f : Expr) (cpos : Pos) : Prop where
 base : attributeBase o m X.env (eval o X.env) = eval o X.env
 few : ((backTo cpos (starEach [e, f] X.env)).all (fun x => !x.1) && (backToKw cpos (keywordEach [] X.env)).all (fun x => x.1.isSome)
  && decide (([e, f] : List Expr).length + ([] : List Keyword).length + (if ([] : List Keyword).isEmpty then 0 else 1) < 30)) = true
 line : (apos.endLine == cpos.line) = true
 trees : backTo cpos (starEach [e, f] X.env) = [(false, eval e X.env), (false, eval f X.env)]
noncomputable def IsD (H : Hp) (a : Addr) : Prop := (∃ kvs, Rd H a (.dK kvs)) ∨ ∃ kvs, Rd H a (.dT kvs)
theorem c0M {X : Cx} {pins : List (Addr × Obj)} {σ : St} {H : Hp} {s : Shared} {a : Addr} (I : Inv X pins σ H s) (d : IsD H a) :
  s.TypeIs (.ref a) "dict" ∧ (∀ b, Value.ref a = .ref b → ∃ ob, s.heap.get? b = some ob ∧ ob.dict = none) ∧ (a == sysModules) = false := by
 rcases d with ⟨kvs, e⟩ | ⟨kvs, e⟩
 ·obtain ⟨_, hd, vs, _, dd⟩ := b4D I.hok e
  refine ⟨dd.typeIs, fun b q => ?_, hd⟩
  cases q
  obtain ⟨ob, _, _, h1, h2, _⟩ := dd
  exact ⟨ob, h1, h2.2.1⟩
 ·obtain ⟨_, hd, xs, _, dd⟩ := b4B I.hok e
  refine ⟨dd.typeIs, fun b q => ?_, hd⟩
  cases q
  obtain ⟨ob, _, _, h1, h2, _⟩ := dd
  exact ⟨ob, h1, h2.2.1⟩
section
variable {X : Cx} {pins : List (Addr × Obj)} {σ : St} {H : Hp} {s : Shared} {a : Addr} {y d : V} {u r : Value} {o : Option V} {A : Around} {E : Value → Shared → Prop}
theorem c1b {Q : Value → Shared → Prop} (hu : A.units + 1 < cLine) (I : Inv X pins σ H s) (g : DGet H a y o) (ry : RelV y u) (rd : RelV d r) (h : ∀ w' s', Inv X pins σ H s' → RelV (o.getD d) w' → Q w' s') :
  wpAny (model X.prog X.w) A (call (.builtin "dict.get") [.ref a, u, r]) Q E s := by
 rcases g with ⟨kvs, k, e, ey, l⟩ | ⟨kvs, k, b, e, ey, eb, l⟩
 ·subst ey
  obtain ⟨z, hd, vs, rel, dd⟩ := b4D I.hok e
  refine call_meetsIn PySem.F.slot_dict_get dd.typeIs PySem.F.entry_dict_get (PySem.F.args_dict_get_3 _ _ _) (meets_dict_get_default (a0m X.prog X.w) a (b5Y ry) hd r) ⟨_, dd.mapOf, h _ _ (I.tok _) ?_⟩
  rw [l]
  exact (rel.val k).getD rd
 ·subst ey
  cases (show u = Value.ref b from ry)
  obtain ⟨z, hd, xs, rel, dd⟩ := b4B I.hok e
  refine call_meetsIn PySem.F.slot_dict_get dd.typeIs PySem.F.entry_dict_get (PySem.F.args_dict_get_3 _ _ _) (meetsH_dict_get_default (tupleKind (a0m X.prog X.w)) a b hd r) ⟨tupleKind_room_in1 hu, k, xs, b1q I.hok eb, dd, h _ _ (I.tok _) ?_⟩
  rw [l]
  exact (rel.val k).getD rd
end
noncomputable def b9T (td ty tx : TE) : TE := fun σ H Q => td σ H fun x H1 => ∃ a, x = .ref a ∧ IsD H1 a ∧ ty σ H1 fun y H2 => tx σ H2 fun z H3 => ∃ o, DGet H3 a y o ∧ Q (o.getD z) H3
section
variable {X : Cx} {o e f : Expr} {apos cpos : Pos} {td ty tx : TE}
theorem b1d (hu : X.A.units + 1 < cLine) (ho : PE X o td) (he : PE X e ty) (hf : PE X f tx) (m : M2 X o "get" apos e f cpos) : PE X (.Call (.Attribute o "get" apos) [e, f] [] cpos) (b9T td ty tx) := by
 intro pins s σ H Q I h
 refine wpAny_Call_method m.base m.few m.line PySem.F.plainAttrs_dict PySem.F.slot_dict_get PySem.F.type_dict_get (thn (ho pins s σ H _ I h) fun u s1 ⟨x, H1, I1, rx, a, ex, d, q1⟩ => ?_)
 subst ex
 obtain rfl : u = Value.ref a := rx
 obtain ⟨t1, t2, _⟩ := c0M I1 d
 refine ⟨t1, t2, ?_⟩
 rw [m.trees]
 refine Calls.callWith_builtin rfl (Calls.evalArgs_plain (Calls.spliced_cons (thn (he pins s1 σ H1 _ I1 q1) fun iv s2 ⟨y, H2, I2, ry, q2⟩ =>
  Calls.spliced_cons (thn (hf pins s2 σ H2 _ I2 q2) fun fv s3 ⟨z, H3, I3, rz, ov, g, q3⟩ => Calls.spliced_nil ?_))))
 exact c1b hu I3 g ry rz fun w' s4 I4 rw' => ⟨_, H3, I4, rw', q3⟩
end
noncomputable def a4b (env : Env) : List (Str × NameKind) → List (Str × Addr) → List (Str × Addr)
 | [], acc => acc
 | (n, k) :: r, acc => a4b env r (if k == .free then (n, (env.cells.lookup n).getD 0) :: acc else acc)
theorem a2S (env : Env) (n : Str) (k : NameKind) (r : List (Str × NameKind)) (acc : List (Str × Addr)) : a4b env ((n, k) :: r) acc = a4b env r (if k == .free then (n, (env.cells.lookup n).getD 0) :: acc else acc) := rfl
theorem a3d (env : Env) (f : Str × NameKind → List (Str × Addr) → Sem (ForInStep (List (Str × Addr))))
  (hf : ∀ n k cs, f (n, k) cs = if (k == .free) = true then (do let a ← cellOf env n; pure (.yield ((n, a) :: cs))) else pure (.yield cs)) :
  ∀ (names : List (Str × NameKind)) (acc : List (Str × Addr)), (∀ y ∈ names, y.2 = .free → ∃ c, env.cells.lookup y.1 = some c) → forIn names acc f = (pure (a4b env names acc) : Sem _)
 | [], acc, _ => by rw [List.forIn_nil]; rfl
 | (n, k) :: r, acc, h => by
   rw [List.forIn_cons, hf]
   have hr : ∀ y ∈ r, y.2 = .free → ∃ c, env.cells.lookup y.1 = some c := fun y hy => h y (List.mem_cons_of_mem _ hy)
   by_cases hk : (k == NameKind.free) = true
   ·rw [if_pos hk]
    obtain ⟨c, hc⟩ := h (n, k) List.mem_cons_self (by simpa using hk)
    have hc' : env.cells.lookup n = some c := hc
    have e : cellOf env n = pure c := by unfold cellOf; rw [hc']
    rw [e]
    simp only [pure_bind]
    rw [a3d env f hf r _ hr]
    rw [a2S, if_pos hk, hc']
    rfl
   ·rw [if_neg hk]
    simp only [pure_bind]
    rw [a3d env f hf r _ hr]
    rw [a2S, if_neg hk]
theorem a8b (scope : Scope) (env : Env) (h : ∀ y ∈ scope.names, y.2 = .free → ∃ c, env.cells.lookup y.1 = some c) : closureFor scope env = pure (a4b env scope.names []) := by
 unfold closureFor
 dsimp only
 rw [a3d env _ (fun n k cs => by cases hk : (k == NameKind.free) <;> simp [hk] <;> rfl) scope.names [] h]
 rfl
theorem a3w (env : Env) : ∀ (names : List (Str × NameKind)) (acc : List (Str × Addr)) (x : Str) (c : Addr), (a4b env names acc).lookup x = some c →
  (acc.lookup x = some c ∨ ((x, .free) ∈ names ∧ c = (env.cells.lookup x).getD 0))
 | [], acc, x, c, h => .inl h
 | (n, k) :: r, acc, x, c, h => by
   rw [a2S] at h
   rcases a3w env r _ x c h with q | ⟨q1, q2⟩
   ·split at q
    ·rename_i hk
     have hk' : k = .free := by simpa using hk
     subst hk'
     rw [List.lookup_cons] at q
     split at q
     ·rename_i hx
      have : x = n := by simpa using hx
      subst this
      cases q
      exact .inr ⟨List.mem_cons_self, rfl⟩
     ·exact .inl q
    ·exact .inl q
   ·exact .inr ⟨List.mem_cons_of_mem _ q1, q2⟩
theorem a9v (env : Env) : ∀ (names : List (Str × NameKind)) (acc : List (Str × Addr)) (x : Str), (∃ c, acc.lookup x = some c) → ∃ c, (a4b env names acc).lookup x = some c
 | [], acc, x, h => h
 | (n, k) :: r, acc, x, h => by
   rw [a2S]
   refine a9v env r _ x ?_
   split
   ·rw [List.lookup_cons]
    split
    ·exact ⟨_, rfl⟩
    ·exact h
   ·exact h
theorem a6a (env : Env) : ∀ (names : List (Str × NameKind)) (acc : List (Str × Addr)) (x : Str), (x, NameKind.free) ∈ names → ∃ c, (a4b env names acc).lookup x = some c
 | [], acc, x, h => by simp at h
 | (n, k) :: r, acc, x, h => by
   rw [a2S]
   rcases List.mem_cons.mp h with e | h
   ·cases e
    refine a9v env r _ _ ?_
    rw [if_pos (by decide), List.lookup_cons]
    simp
   ·exact a6a env r _ x h
noncomputable def ownB (names : List (Str × NameKind)) (x : Str) : Bool := names.any fun y => y.1 == x && y.2 == .cell
theorem b1f {names : List (Str × NameKind)} {x : Str} : ownB names x = true ↔ (x, NameKind.cell) ∈ names := by
 unfold ownB
 rw [List.any_eq_true]
 constructor
 ·rintro ⟨⟨n, k⟩, h, e⟩
  simp only [Bool.and_eq_true, beq_iff_eq] at e
  obtain ⟨rfl, rfl⟩ := e
  exact h
 ·intro h
  exact ⟨_, h, by simp⟩
theorem a0S : ∀ (names : List (Str × NameKind)) (n : Nat) (acc : List (Str × Addr)), cellsFrom n names acc = cellsFrom n names [] ++ acc
 | [], _, _ => rfl
 | (x, k) :: r, n, acc => by
   unfold cellsFrom
   split
   ·rw [a0S r (n + 1) ((x, n) :: acc), a0S r (n + 1) [(x, n)], List.append_assoc]; rfl
   ·exact a0S r n acc
theorem a2l : ∀ (names : List (Str × NameKind)) (n : Nat) {x : Str} {c : Addr}, (x, c) ∈ cellsFrom n names [] → n ≤ c ∧ (x, NameKind.cell) ∈ names
 | [], _, _, _, h => nomatch h
 | (y, k) :: r, n, x, c, h => by
   unfold cellsFrom at h
   split at h
   ·rename_i hk
    have hk' : k = .cell := by simpa using hk
    subst hk'
    rw [a0S] at h
    rcases List.mem_append.mp h with h | h
    ·have := a2l r (n + 1) h
     exact ⟨by lia, List.mem_cons_of_mem _ this.2⟩
    ·cases List.mem_singleton.mp h
     exact ⟨Nat.le_refl _, List.mem_cons_self⟩
   ·have := a2l r n h
    exact ⟨this.1, List.mem_cons_of_mem _ this.2⟩
theorem a2s : ∀ (names : List (Str × NameKind)) (n : Nat) {x : Str}, (x, NameKind.cell) ∈ names → ((cellsFrom n names []).lookup x).isSome = true
 | [], _, _, h => nomatch h
 | (y, k) :: r, n, x, h => by
   unfold cellsFrom
   rcases List.mem_cons.mp h with e | h
   ·cases e
    rw [if_pos (by decide), a0S, List.lookup_append]
    cases hh : (cellsFrom (n + 1) r []).lookup y with
    | some c => rfl
    | none => simp
   ·have i0 := a2s r n h
    have i1 := a2s r (n + 1) h
    split
    ·rw [a0S, List.lookup_append]
     cases hh : (cellsFrom (n + 1) r []).lookup x with
     | some c => rfl
     | none => rw [hh] at i1; cases i1
    ·exact i0
theorem a2A : ∀ (names : List (Str × NameKind)) (n : Nat), (cellsFrom n names []).Pairwise fun x y => x.2 ≠ y.2
 | [], _ => List.Pairwise.nil
 | (y, k) :: r, n => by
   unfold cellsFrom
   split
   ·rw [a0S]
    refine List.pairwise_append.mpr ⟨a2A r (n + 1), List.pairwise_singleton _ _, fun a ha b hb => ?_⟩
    rw [List.mem_singleton.mp hb]
    have := (a2l r (n + 1) (x := a.1) (c := a.2) ha).1
    show a.2 ≠ n
    exact Nat.ne_of_gt (Nat.lt_of_succ_le this)
   ·exact a2A r n
theorem a4x {M : Model} {A : Around} {E : Value → Shared → Prop} {s : Shared} {scope : Scope} {globals : Addr} {closure : List (Str × Addr)} {qual : Str} {func : Option Addr} {code : Value} {around : Env} {builtins : Addr} {Q : Env → Shared → Prop}
  (hQ : ∀ h', h' = pushCells (s.heap.push { cls := .type "dict", data := .dict #[] }) scope.names → Q (newEnv scope s.heap.objs.size globals (cellsFrom (s.heap.objs.size + 1) scope.names [] ++ closure) qual func code (some around) builtins) { s with heap := h' }) :
  wpAny M A (newFunctionEnv scope globals closure [] qual func code (some around) builtins) Q E s := by
 simp only [newFunctionEnv, Option.isSome_some, if_true]
 refine wpAny_bind (wpAny_alloc ?_)
 refine wpAny_bind (wpAny_layCells _ (fun name kind cells => by cases hkc : kind == NameKind.cell <;> simp [hkc]) _ _ _ _ ?_)
 rw [a0S, show ({ s with heap := s.heap.push { cls := .type "dict", data := .dict #[] } } : Shared).heap.objs.size = s.heap.objs.size + 1 from Heap.size_push ..]
 refine wpAny_bind ?_
 rw [List.forIn_nil]
 exact wpAny_pure (wpAny_pure (hQ _ rfl))
section
variable {prog : Program} {w : World} {A : Around} {R : Result → Shared → Prop} {s : Shared}
theorem a3M {elt target iter : Expr} {ifs : List Expr} {scope : Scope} {pos : Pos} {it acc : Value} {env : Env} (I : Nat → Shared → Prop)
  (turn : ∀ n s, I n s → wpAny (model prog w) A (pyNext it) (fun r s₁ => match r with
   | none => R (.ok .next) s₁
   | some v => wpAny (model prog w) A (letOwnedTupleGo target it v) (fun _ s₁' => wpAny (model prog w) A (assign target env v) (fun _ s₂ =>
     wpAny (model prog w) A (forIn ifs true fun c r => if r = true then do let ok ← isTrue c env (eval c env); pure (ForInStep.yield ok) else pure (ForInStep.yield r)) (fun ok s₃ =>
      if ok = true then wpAny (model prog w) A (eval elt env) (fun x s₄ =>
       wpAny (model prog w) A (call (.builtin "list.append") [acc, x]) (fun _ s₅ => ∃ m, m < n ∧ I m s₅) (notedBy (model prog w) A env fun e s' => R (.error e) s') s₄) (notedBy (model prog w) A env fun e s' => R (.error e) s') s₃
      else ∃ m, m < n ∧ I m s₃) (notedBy (model prog w) A env fun e s' => R (.error e) s') s₂) (notedBy (model prog w) A env fun e s' => R (.error e) s') s₁') (notedBy (model prog w) A env fun e s' => R (.error e) s') s₁) (notedBy (model prog w) A env fun e s' => R (.error e) s') s)
  (n : Nat) (h : I n s) :
  codeAny (model prog w) A (.compLoop (.ListComp elt [⟨target, iter, ifs, 0⟩] scope pos) 0 it acc env) R s := by
 refine codeAny_loop rfl I (fun n s hI => ?_) n h
 show wpAny _ A ((compTurn (.ListComp elt [⟨target, iter, ifs, 0⟩] scope pos) 0 it acc env).onRaise (fun x => do noteFrame x env; theTreesLotGoes x)) _ _ s
 refine wpAny_noted ?_
 rw [compTurn_list]
 refine wpAny_bind (wpAny_standAt (wpAny_bind (wpAny_mono (turn n s hI) (fun r s₁ h₁ => ?_) fun _ _ h' => h')))
 cases r with
 | none => exact wpAny_pure h₁
 | some v =>
   refine wpAny_bind (wpAny_mono h₁ (fun _ s₁' h₁' => wpAny_bind (wpAny_mono h₁' (fun _ s₂ h₂ => wpAny_bind (wpAny_mono h₂ (fun ok s₃ h₃ => ?_) fun _ _ h' => h')) fun _ _ h' => h')) fun _ _ h' => h')
   cases ok with
   | false => exact wpAny_pure ⟨rfl, h₃⟩
   | true =>
     exact wpAny_bind (wpAny_bind (wpAny_mono h₃ (fun x s₄ h₄ => wpAny_bind (wpAny_mono h₄ (fun _ s₅ h₅ => wpAny_pure (wpAny_pure ⟨rfl, h₅⟩)) fun _ _ h' => h')) fun _ _ h' => h'))
end
noncomputable def blk (X : Cx) (N' : List Str) (scope : Scope) (C : Addr) (s : Shared) (H : Hp) (fp : List Addr) (pins : List (Addr × Obj)) : Cx where
 prog := X.prog
 w := X.w
 K := X.K
 mg := X.mg
 base := X.base
 A := X.A
 N := N'
 s₀ := s
 H₀ := H
 env := compEnvC scope (cellsFrom (C + 1) scope.names [] ++ a4b X.env scope.names []) C X.env
 outer := X.stack
 stack := X.stack
 ex := fp
 fn := ownB scope.names
 calm := X.calm
 pn := X.pn ++ pins
 xe := fun _ _ => False
structure BlkScope (X : Cx) (N' : List Str) (ix : List (Option Nat)) (scope : Scope) : Prop where
 kind : scope.kind = .function
 locs : ∀ y ∈ scope.names, y.2 = .local → scope.names.lookup y.1 = some .local
 frees : ∀ y ∈ scope.names, y.2 = .free → (X.env.kindOf y.1 = some .cell ∨ X.env.kindOf y.1 = some .free)
 look : ∀ x k, (relabel scope X.env).names.lookup x = some k → (k = .cell ∨ k = .free) → (x, NameKind.free) ∈ scope.names ∨ (x, NameKind.cell) ∈ scope.names
 lenI : ix.length = N'.length
 at_ : ∀ (i j : Nat) (x : Str), ix[i]? = some (some j) → N'[i]? = some x → X.N[j]? = some x ∧ (x, NameKind.free) ∈ scope.names ∧ ownB scope.names x = false ∧ (relabel scope X.env).names.lookup x = X.env.kindOf x
variable {X : Cx} {pins : List (Addr × Obj)} {σ : St} {H : Hp} {s : Shared} {N' : List Str} {ix : List (Option Nat)} {scope : Scope}
noncomputable def pick (ix : List (Option Nat)) (σ : St) : St := ix.map fun o => match o with | some j => (σ[j]?).join | none => none
theorem b1c {i : Nat} {v : V} (e : (pick ix σ)[i]? = some (some v)) : ∃ j, ix[i]? = some (some j) ∧ σ[j]? = some (some v) := by
 unfold pick at e
 rw [List.getElem?_map] at e
 cases h : ix[i]? with
 | none => rw [h] at e; cases e
 | some o =>
   rw [h] at e
   cases o with
   | none =>
     have e' : (none : Option V) = some v := Option.some.inj e
     cases e'
   | some j =>
     have e' : (σ[j]?).join = some v := Option.some.inj e
     refine ⟨j, rfl, ?_⟩
     cases hj : σ[j]? with
     | none => rw [hj] at e'; cases e'
     | some u => rw [hj] at e'; exact congrArg some e'
theorem a2m (I : Inv X pins σ H s) (S : BlkScope X N' ix scope) (C : Addr) {x : Str} {c : Addr} (e : (cellsFrom (C + 1) scope.names [] ++ a4b X.env scope.names []).lookup x = some c) :
  (C < c ∧ (cellsFrom (C + 1) scope.names []).lookup x = some c) ∨ (ownB scope.names x = false ∧ X.env.cells.lookup x = some c) := by
 rw [List.lookup_append] at e
 cases h : (cellsFrom (C + 1) scope.names []).lookup x with
 | some c' =>
   rw [h] at e
   cases e
   exact .inl ⟨(a2l _ _ (mem_of_lookup h)).1, rfl⟩
 | none =>
   rw [h] at e
   refine .inr ⟨Bool.eq_false_iff.mpr fun z => ?_, ?_⟩
   ·have := a2s scope.names (C + 1) (b1f.mp z)
    rw [h] at this; cases this
   ·have e' : (a4b X.env scope.names []).lookup x = some c := e
    rcases a3w X.env scope.names [] x c e' with q | ⟨q, rfl⟩
    ·cases q
    ·obtain ⟨c, hc⟩ := I.ok.has x (S.frees _ q rfl)
     rw [hc] <;> rfl
theorem c1f {fp : List Addr} {C : Addr} (I : Inv X pins σ H s) (hf : ∀ b ∈ fp, FpOk X pins H b) (S : BlkScope X N' ix scope) (hC : s.heap.objs.size ≤ C) (hfo : ∀ b ∈ fp, ∃ o, s.heap.get? b = some o) :
  (blk X N' scope C s H fp pins).Ok := by
 have lt : ∀ x c, X.env.cells.lookup x = some c → c < C := fun x c e => by
  obtain ⟨v, z⟩ := I.cell x c e
  exact Nat.lt_of_lt_of_le z.lt hC
 refine ⟨I.ok.mod, ?_, I.ok.glob, I.ok.blt, hC, fun x y c h1 h2 => ?_, fun x hx => ?_, fun x c hf' e => ?_, I.ok.hd, I.ok.frames, .inl rfl, fun b hb => ?_, I.bs, Nat.le_trans I.ok.bsz I.sz, fun b o e hb => ?_, fun b hb hs => ?_, I.stack, I.stkFree⟩
 ·exact S.kind
 ·rcases a2m I S C h1 with ⟨a1, a2⟩ | ⟨a1, a2⟩ <;> rcases a2m I S C h2 with ⟨b1, b2⟩ | ⟨b1, b2⟩
  ·exact name_of_addr (a2A _ _) (mem_of_lookup a2) (mem_of_lookup b2)
  ·exact absurd (Nat.lt_trans (lt _ _ b2) a1) (Nat.lt_irrefl _)
  ·exact absurd (Nat.lt_trans (lt _ _ a2) b1) (Nat.lt_irrefl _)
  ·exact I.ok.inj x y c a2 b2
 ·have hx' : (relabel scope X.env).names.lookup x = some .cell ∨ (relabel scope X.env).names.lookup x = some .free := hx
  have key : (x, NameKind.free) ∈ scope.names ∨ (x, NameKind.cell) ∈ scope.names := by
   rcases hx' with hx' | hx'
   ·exact S.look x _ hx' (.inl rfl)
   ·exact S.look x _ hx' (.inr rfl)
  show ∃ c, (cellsFrom (C + 1) scope.names [] ++ a4b X.env scope.names []).lookup x = some c
  rw [List.lookup_append]
  cases h : (cellsFrom (C + 1) scope.names []).lookup x with
  | some c => exact ⟨c, rfl⟩
  | none =>
    rcases key with k | k
    ·obtain ⟨c, hc⟩ := a6a X.env scope.names [] x k
     exact ⟨c, by rw [hc]; rfl⟩
    ·have := a2s scope.names (C + 1) k
     rw [h] at this; cases this
 ·rcases a2m I S C e with ⟨a1, a2⟩ | ⟨a1, a2⟩
  ·exact Nat.le_of_lt (Nat.lt_of_le_of_lt hC a1)
  ·have hf2 : ownB scope.names x = true := hf'
   rw [a1] at hf2; cases hf2
 ·obtain ⟨f0, f1, f2, f3, f4, f5⟩ := hf b hb
  obtain ⟨o, ho⟩ := hfo b hb
  refine ⟨Nat.ne_of_lt (Nat.lt_of_lt_of_le (Heap.lt_size ho) hC), fun x c e => ?_⟩
  rcases a2m I S C e with ⟨a1, a2⟩ | ⟨a1, a2⟩
  ·exact Nat.ne_of_gt (Nat.lt_trans (Nat.lt_of_lt_of_le (Heap.lt_size ho) hC) a1)
  ·exact f4 x c a2
 ·obtain ⟨f0, f1, f2, f3, f4, f5⟩ := hf b hb
  have := (I.ok.bs b o e).1
  rcases f3 with z | z
  ·exact I.ok.noex b o e z
  ·exact absurd (Nat.lt_of_lt_of_le (Heap.lt_size this) z) (Nat.lt_irrefl _)
 ·obtain ⟨f0, f1, f2, f3, f4, f5⟩ := hf b hb
  rcases List.mem_cons.mp (I.stkSub b hs) with e | e
  ·exact f1 e
  ·exact f2 e
theorem b4Y {fp : List Addr} {C : Addr} {h₁ : Heap} {tk : Nat} (I : Inv X pins σ H s) (hf : ∀ b ∈ fp, FpOk X pins H b) (S : BlkScope X N' ix scope) (hC : s.heap.objs.size ≤ C) (hfo : ∀ b ∈ fp, ∃ o, s.heap.get? b = some o)
  (hns : h₁.Ns C (fun _ => none)) (hk : ∀ b o, s.heap.get? b = some o → h₁.get? b = some o) (hown : ∀ x c, (x, c) ∈ cellsFrom (C + 1) scope.names [] → h₁.IsCell c none) :
  Inv (blk X N' scope C s H fp pins) [] (pick ix σ) H { s with heap := h₁, toks := tk } := by
 have nC : ∀ b o, s.heap.get? b = some o → b ≠ C := fun b o e => Nat.ne_of_lt (Nat.lt_of_lt_of_le (Heap.lt_size e) hC)
 refine ⟨c1f I hf S hC hfo, rfl, I.bare, Un.kept hk, ⟨_, hns, fun i x v h1 h2 h3 => ?_⟩, fun x c e => ?_, I.hok.fresh hC, fun x c e => ?_, fun p hp => ?_, I.hok.kept hk, ?_⟩
 ·obtain ⟨j, e1, e2⟩ := b1c h2
  obtain ⟨a1, a2, a4, a3⟩ := S.at_ i j x e1 h1
  have kd := S.frees _ a2 rfl
  have vis : Vis X.env.scope x := by
   rcases kd with k | k
   ·exact .inr (.inl k)
   ·exact .inr (.inr k)
  obtain ⟨m, hn, hl⟩ := I.loc
  obtain ⟨u, r, l⟩ := hl j x v a1 e2 vis
  refine ⟨u, r, .inr ?_⟩
  have kd' : X.env.kindOf x = some .cell ∨ X.env.kindOf x = some .free := kd
  rcases l with ⟨k, _⟩ | ⟨k, c, ec, z⟩
  ·rcases kd' with q | q <;> (rw [q] at k; cases k)
  ·refine ⟨?_, c, ?_, z.keeps hk⟩
   ·show (relabel scope X.env).names.lookup x = some .cell ∨ (relabel scope X.env).names.lookup x = some .free
    rw [a3]; exact kd'
   ·obtain ⟨c', hc'⟩ := a6a X.env scope.names [] x a2
    show (cellsFrom (C + 1) scope.names [] ++ a4b X.env scope.names []).lookup x = some c
    have hn : (cellsFrom (C + 1) scope.names []).lookup x = none := by
     cases h : (cellsFrom (C + 1) scope.names []).lookup x with
     | none => rfl
     | some c2 =>
       have := b1f.mpr (a2l _ _ (mem_of_lookup h)).2
       rw [a4] at this; cases this
    rw [List.lookup_append, hn]
    show (a4b X.env scope.names []).lookup x = some c
    rcases a3w X.env scope.names [] x c' hc' with q | ⟨q, q2⟩
    ·cases q
    ·rw [hc', q2, ec]; rfl
 ·rcases a2m I S C e with ⟨a1, a2⟩ | ⟨a1, a2⟩
  ·exact ⟨none, hown x c (mem_of_lookup a2)⟩
  ·obtain ⟨v, z⟩ := I.cell x c a2
   exact ⟨v, z.keeps hk⟩
 ·rcases a2m I S C e with ⟨a1, a2⟩ | ⟨a1, a2⟩
  ·exact I.hok.fresh (Nat.le_of_lt (Nat.lt_of_le_of_lt hC a1))
  ·exact I.freeC x c a2
 ·have hp' : p ∈ X.pn ++ pins := by
   have : p ∈ (X.pn ++ pins) ++ [] := hp
   simpa using this
  obtain ⟨e, n, ne, nf, d⟩ := I.pin p hp'
  refine ⟨hk _ _ e, n, nC _ _ e, fun hb => ?_, d⟩
  rcases List.mem_cons.mp (I.stkSub _ hb) with z | z
  ·exact ne z
  ·exact nf z
 ·show (pick ix σ).length = N'.length
  unfold pick
  rw [List.length_map, S.lenI]
theorem b8Y {fp : List Addr} {C D : Addr} {h' : Heap} {H' : Hp} {σ' : St} {s' : Shared} {ys : List V} {its : List Value} {cap : Nat} (I : Inv X pins σ H s) (hf : ∀ b ∈ fp, FpOk X pins H b) (hC : s.heap.objs.size ≤ C) (hD : s.heap.objs.size ≤ D) (hDC : D ≠ C)
  (J : Inv (blk X N' scope C s H fp pins) [] σ' H' s') (hDn : H' D = none) (ho : s'.heap.get? D = some { cls := .type "list", data := .seq its.toArray cap }) (r : Vals ys its) (hz : ys.length ≤ sizeLine) (sb : Heap.SameBut C s'.heap h') :
  Inv X pins σ (upd H' D (.lst ys)) { s' with heap := h' } := by
 have sb' : ∀ b o, b ≠ C → s'.heap.get? b = some o → h'.get? b = some o := sb.extBut
 have nC : ∀ b o, s.heap.get? b = some o → b ≠ C := fun b o e => Nat.ne_of_lt (Nat.lt_of_lt_of_le (Heap.lt_size e) hC)
 have nD : ∀ b o, s.heap.get? b = some o → b ≠ D := fun b o e => Nat.ne_of_lt (Nat.lt_of_lt_of_le (Heap.lt_size e) hD)
 have hCn : H' C = none := J.free
 have u := J.base
 refine I.call' (ch := fp) (s' := { s' with heap := h' }) J.os ⟨fun b o e n hb hx => ?_, fun b o e n hb hx => ?_, fun b o e n hx => ?_, fun b o e hx => ?_, fun b xs e => ?_, fun b o v e => ?_, fun b ps e => ?_⟩ (fun b o e => ?_) J.bare (fun b hb => ?_)
 ·exact sb' _ _ (nC b o e) (u.keep b o e n hb hx)
 ·obtain ⟨sl, q⟩ := u.slot b o e n hb hx
  exact ⟨sl, sb' _ _ (nC b o e) q⟩
 ·rw [a0p (nD b o e)]; exact u.free b o e n hx
 ·obtain ⟨o', q⟩ := u.there b o e hx
  exact ⟨o', sb' _ _ (nC b o e) q⟩
 ·have q := u.tups b xs e
  rw [a0p (a0k q hDn)]; exact q
 ·have q := u.frzs b o v e
  rw [a0p (a0k q hDn)]; exact q
 ·obtain ⟨m, q⟩ := u.tbls b ps e
  exact ⟨m, by rw [a0p (a0k q hDn)]; exact q⟩
 ·by_cases hb : b = D
  ·subst hb
   rw [a0A] at e; cases e
   exact ⟨hz, its, cap, r, sb' _ _ hDC ho⟩
  ·rw [a0p hb] at e
   refine (J.hok b o e).stay (fun c v hc q => sb' c v ?_ q) (fun c q => by rw [a0p (a0k q hDn)]; exact q) fun c xs q => by rw [a0p (a0k q hDn)]; exact q
   rcases hc with rfl | hc
   ·exact a0k e hCn
   ·exact a0k hc hCn
 ·obtain ⟨f0, f1, f2, f3, f4, f5⟩ := hf b hb
  exact ⟨f3, f1, f4, f5⟩
noncomputable def b5m (wi : TI) (ix : List (Option Nat)) (g : TG) (tt : TT) (te : TE) : TE := fun σ H Q => wi σ H fun J H1 => ∃ W : Nat → Nat → List V → Hp → Prop, (∃ m, W 0 m [] H1) ∧ ∀ i m ys H, W i m ys H →
 (J.stop i H ∧ ys.length ≤ sizeLine ∧ ∀ p, H p = none → Q (.ref p) (upd H p (.lst ys))) ∨
 (J.go i H ∧ ys.length < sizeLine ∧ ∀ x H', J.yld i H x H' → g x (pick ix σ) H' fun σ2 H2 => tt σ2 H2 fun ok H3 =>
  if ok = true then te σ2 H3 fun y H4 => ∃ m', m' < m ∧ W (i + 1) m' (ys ++ [y]) H4 else ∃ m', m' < m ∧ W (i + 1) m' ys H3)
noncomputable def PTs (X : Cx) (ifs : List Expr) (t : TT) : Prop :=
 ∀ (pins : List (Addr × Obj)) (s : Shared) (σ : St) (H : Hp) (Q : Bool → Hp → Prop), Inv X pins σ H s → t σ H Q →
   wpAny (model X.prog X.w) X.A (forIn ifs true fun c r => if r = true then do let ok ← isTrue c X.env (eval c X.env); pure (ForInStep.yield ok) else pure (ForInStep.yield r)) (TP X pins σ Q) X.xe s
noncomputable def tYes : TT := fun _ H Q => Q true H
theorem b8c : PTs X [] tYes := fun _ _ _ H _ I h => wpAny_tests_nil ⟨H, I, h⟩
theorem b8b {c : Expr} {t : TT} (h : PT X c t) : PTs X [c] t := fun pins s σ H Q I hw => wpAny_tests_one (h pins s σ H Q I hw)
noncomputable def Agr (ix : List (Option Nat)) (σ σ2 : St) : Prop := σ2.length = σ.length ∧ ∀ (k j : Nat), ix[k]? = some (some j) → σ2[k]? = σ[k]?
noncomputable def Own (ix : List (Option Nat)) (g : TG) : Prop := ∀ (x : V) (σ0 σ : St) (H : Hp) (Q : St → Hp → Prop), Agr ix σ0 σ → g x σ H Q → g x σ H fun σ2 H2 => Q σ2 H2 ∧ Agr ix σ0 σ2
noncomputable def Owns (ix : List (Option Nat)) (g : TGs) : Prop := ∀ (x : List V) (σ0 σ : St) (H : Hp) (Q : St → Hp → Prop), Agr ix σ0 σ → g x σ H Q → g x σ H fun σ2 H2 => Q σ2 H2 ∧ Agr ix σ0 σ2
noncomputable def c1m (g : TG) : Prop := ∀ (x : V) (σ : St) (H : Hp) (Q Q' : St → Hp → Prop), (∀ σ H, Q σ H → Q' σ H) → g x σ H Q → g x σ H Q'
theorem a7y {ix : List (Option Nat)} {i : Nat} (h : ix[i]? = some none) : Own ix (a9i i) := by
 intro x σ0 σ H Q a q
 refine ⟨q, by rw [List.length_set]; exact a.1, fun k j hk => ?_⟩
 rw [List.getElem?_set_ne]
 ·exact a.2 k j hk
 ·rintro rfl
  rw [h] at hk; cases hk
theorem a6S {i : Nat} : c1m (a9i i) := fun x σ H Q Q' h q => h _ _ q
theorem b5K {ix : List (Option Nat)} : Owns ix gNil := by
 intro x σ0 σ H Q a q
 exact ⟨q.1, q.2, a⟩
theorem a8H {ix : List (Option Nat)} {t : TG} {u : TGs} (m : c1m t) (h1 : Own ix t) (h2 : Owns ix u) : Owns ix (b6n t u) := by
 intro x σ0 σ H Q a q
 obtain ⟨v, r, e, q⟩ := q
 exact ⟨v, r, e, m _ _ _ _ _ (fun σ1 H1 q1 => h2 _ σ0 _ _ _ q1.2 q1.1) (h1 _ σ0 _ _ _ a q)⟩
theorem b8p {ix : List (Option Nat)} {K : PySem.W.Frag} {n : Nat} {t : TGs} (h : Owns ix t) : Own ix (gTup K n t) := by
 intro x σ0 σ H Q a q
 obtain ⟨p, xs, e1, e2, e3, q⟩ := q
 exact ⟨p, xs, e1, e2, e3, h _ σ0 _ _ _ a q⟩
theorem a9s {elt iter tg : Expr} {ifs : List Expr} {pos posc : Pos} {wi : TI} {g : TG} {tt : TT} {te : TE} (use : Option (Value → Sem Unit)) (QQ : Value → Shared → Prop) (hc : X.calm = true) (hi : PI X tg iter wi) (S : BlkScope X N' ix scope) (ow : Own ix g)
  (hg : ∀ C s H fp pins, PG (blk X N' scope C s H fp pins) tg g) (ht : ∀ C s H fp pins, PTs (blk X N' scope C s H fp pins) ifs tt) (he : ∀ C s H fp pins, PE (blk X N' scope C s H fp pins) elt te)
  (hs : ∀ x, foldedSetIterable iter X.env x = pure x) (pins : List (Addr × Obj)) (s : Shared) (σ : St) (H : Hp) (Q : VK) (I : Inv X pins σ H s) (h : b5m wi ix g tt te σ H Q)
  (hpost : ∀ (C D : Addr) (H5 : Hp) (s4 : Shared) (m : Str → Option Value), s4.heap.Ns C m → FpOk X pins H5 C → (∀ h', Heap.SameBut C s4.heap h' → Inv X pins σ H5 { s4 with heap := h' }) → Q (.ref D) H5 →
   compPost (model X.prog X.w) X.A X.xe use QQ (.ref D) C (.ok .next) s4) :
  wpAny (model X.prog X.w) X.A (comprehension (.ListComp elt [⟨tg, iter, ifs, 0⟩] scope pos) scope X.env posc (newList []) false (eval iter X.env) use) QQ X.xe s := by
 refine wpAny_comprehension_free (use := use) rfl hs (a8b scope X.env fun y hy hk => I.ok.has y.1 (S.frees y hy hk)) S.kind S.locs (thn (hi pins s σ H _ I h) fun v s1 h1 => thn h1 fun itv s2 h2 => ?_)
 obtain ⟨it, fp, tn, J, H2, e, I2, T, st2, f2, W, ⟨m0, w0⟩, turn⟩ := h2
 subst e
 have hfo : ∀ b ∈ fp, ∃ o, s2.heap.get? b = some o := fun b hb => let ⟨o, e, _⟩ := T.obj _ _ st2 b hb; ⟨o, e⟩
 refine wpAny_newObj_type (a4x (fun h₁ eh₁ => ?_))
 dsimp only at eh₁ ⊢
 generalize hH2 : s2.heap.push { cls := .type "list", dict := none, data := .seq ([] : List Value).toArray } = Hp2 at eh₁ ⊢
 have hC : Hp2.objs.size = s2.heap.objs.size + 1 := by rw [← hH2, Heap.size_push]
 have old1 : ∀ b o, Hp2.get? b = some o → h₁.get? b = some o := fun b o e => by rw [eh₁]; exact pushCells_keeps _ _ _ _ (Heap.get?_push_of_some _ e)
 have hns : h₁.Ns Hp2.objs.size (fun _ => none) := by rw [eh₁]; exact (Heap.Ns.new Hp2 (.type "dict")).keeps (pushCells_keeps _ _)
 have hown : ∀ x c, (x, c) ∈ cellsFrom (Hp2.objs.size + 1) scope.names [] → h₁.IsCell c none := fun x c hm => by
  have ok := cellsFrom_ok scope.names (Hp2.push { cls := .type "dict", data := .dict #[] }) (Hp2.objs.size + 1) [] ⟨fun _ _ hm => (nomatch hm), List.Pairwise.nil⟩ (by rw [Heap.size_push]; exact Nat.le_refl _)
  rw [Heap.size_push] at ok
  rw [eh₁]
  exact (ok.empty x c hm).1
 generalize hCC : Hp2.objs.size = C at hns hown hC ⊢
 generalize hDD : s2.heap.objs.size = D at hC
 have hCge : s2.heap.objs.size ≤ C := by rw [hDD, hC]; exact Nat.le_succ _
 have hDge : s2.heap.objs.size ≤ D := Nat.le_of_eq hDD
 have hDC : D ≠ C := by rw [hC]; exact Nat.ne_of_lt (Nat.lt_succ_self _)
 have hDlt : D < C := by rw [hC]; exact Nat.lt_succ_self _
 have old : ∀ b o, s2.heap.get? b = some o → h₁.get? b = some o := fun b o e => old1 b o (hH2 ▸ Heap.get?_push_of_some _ e)
 have hacc : h₁.get? D = some { cls := .type "list", data := .seq ([] : List Value).toArray 0 } := old1 _ _ (hH2 ▸ hDD ▸ Heap.get?_push_size _ rfl)
 have stat : ∀ {H' : Hp}, (∀ b ∈ fp, H' b = none) → ∀ b ∈ fp, FpOk (blk X N' scope C s2 H2 fp pins) [] H' b := fun hn b hb => by
  obtain ⟨f0, f1, f2, f3, f4, f5⟩ := f2 b hb
  obtain ⟨o, ho⟩ := hfo b hb
  refine ⟨hn b hb, Nat.ne_of_lt (Nat.lt_of_lt_of_le (Heap.lt_size ho) hCge), fun z => ?_, .inl hb, fun x c e => ?_, fun p hp => ?_⟩
  ·rcases List.mem_cons.mp (I2.stkSub _ z) with e | e
   ·exact f1 e
   ·exact f2 e
  ·rcases a2m I2 S C e with ⟨a1, a2⟩ | ⟨a1, a2⟩
   ·exact Nat.ne_of_gt (Nat.lt_trans (Nat.lt_of_lt_of_le (Heap.lt_size ho) hCge) a1)
   ·exact f4 x c a2
  ·have : p ∈ (X.pn ++ pins) ++ [] := hp
   exact f5 p (by simpa using this)
 have hDs : D ∉ (blk X N' scope C s2 H2 fp pins).fs := fun hb => by
  rcases List.mem_cons.mp (I2.stkSub _ hb) with e | e
  ·rw [e] at hDge
   exact absurd (Nat.lt_of_lt_of_le I2.lt hDge) (Nat.lt_irrefl _)
  ·exact I2.nofs hDge e
 have loop : ∀ s₃ : Shared, s₃ = { s2 with heap := h₁ } →
   codeAny (model X.prog X.w) X.A (.compLoop (.ListComp elt [⟨tg, iter, ifs, 0⟩] scope pos) 0 (.ref it) (.ref D) (compEnvC scope (cellsFrom (C + 1) scope.names [] ++ a4b X.env scope.names []) C X.env))
    (compPost (model X.prog X.w) X.A X.xe use QQ (.ref D) C) s₃ := by
  rintro s₃ rfl
  refine a3M (fun n s' => ∃ i ys its cap H', Inv (blk X N' scope C s2 H2 fp pins) [] (pick ix σ) H' s' ∧ tn i s'.heap ∧ (∀ b ∈ fp, H' b = none) ∧ H' D = none ∧
    s'.heap.get? D = some { cls := .type "list", data := .seq (its : List Value).toArray cap } ∧ Vals ys its ∧ W i n ys H') ?_ m0
   ⟨0, [], [], 0, H2, b4Y I2 f2 S hCge hfo hns old hown, T.keep _ _ _ st2 fun b _ o e => old b o e, fun b hb => (f2 b hb).1, I2.hok.fresh hDge, hacc, .nil, w0⟩
  rintro n s3 ⟨i, ys, its, cap, H3, I3, st3, fr3, hD3, ho3, r3, w3⟩
  have I3d : Inv (blk X N' scope C s2 H2 fp pins) [(D, { cls := .type "list", data := .seq its.toArray cap })] (pick ix σ) H3 s3 := I3.pins_of fun p hp => by
   have e : p = (D, { cls := .type "list", data := .seq its.toArray cap }) := by simpa using hp
   subst e
   exact ⟨ho3, hD3, hDC, hDs, fun v z => nomatch z⟩
  have statD : ∀ {H' : Hp}, (∀ b ∈ fp, H' b = none) → ∀ b ∈ fp, FpOk (blk X N' scope C s2 H2 fp pins) [(D, ({ cls := .type "list", data := .seq its.toArray cap } : Obj))] H' b := fun hn b hb => by
   obtain ⟨f0, f1, f2, f3, f4, f5⟩ := stat hn b hb
   obtain ⟨o, ho⟩ := hfo b hb
   refine ⟨f0, f1, f2, f3, f4, fun p hp => ?_⟩
   rcases List.mem_append.mp hp with z | z
   ·exact f5 p (List.mem_append_left _ z)
   ·have e : p = (D, ({ cls := .type "list", data := .seq its.toArray cap } : Obj)) := by simpa using z
    subst e
    exact Nat.ne_of_gt (Nat.lt_of_lt_of_le (Heap.lt_size ho) hDge)
  rcases turn i n ys H3 w3 with ⟨stop, hz, qn⟩ | ⟨go, hz, step⟩
  ·refine wpAny_noRaise (thn (T.done (blk X N' scope C s2 H2 fp pins) rfl rfl rfl hc i _ s3 (pick ix σ) H3 (fun _ _ => False) I3d (statD fr3) st3 stop) fun r s4 ⟨hr, I4⟩ => ?_)
   subst hr
   obtain ⟨e4, n4, _⟩ := I4.pin (D, _) (List.mem_append_right _ (List.mem_singleton.mpr rfl))
   obtain ⟨m, hn, _⟩ := id I4.loc
   have hC4 : H3 C = none := I4.free
   exact hpost C D _ _ m hn (I2.fpOk hCge (by rw [a0p (Ne.symm hDC)]; exact hC4)) (fun h' sb => b8Y I2 f2 hCge hDge hDC (Inv.unpinned (pl := [(D, _)]) (pins := []) I4) n4 e4 r3 hz sb) (qn D n4)
  ·refine wpAny_noRaise (thn (T.item (blk X N' scope C s2 H2 fp pins) rfl rfl rfl hc i _ s3 (pick ix σ) H3 (fun _ _ => False) I3d (statD fr3) st3 go) fun r s4 ⟨u, hr, h4⟩ => ?_)
   subst hr
   refine wpAny_noRaise (thn h4 fun _ s5 ⟨x, H5, I5, r5, y5, st5, fr5⟩ => ?_)
   have I5' := I5.pinned (statD fr5) (T.obj _ _ st5)
   have again : ∀ {σ7 : St} {H7 : Hp} {s7 : Shared}, Inv (blk X N' scope C s2 H2 fp pins) ([(D, ({ cls := .type "list", data := .seq its.toArray cap } : Obj))] ++ a6I fp s5.heap) σ7 H7 s7 →
     H7 D = none ∧ s7.heap.get? D = some { cls := .type "list", data := .seq its.toArray cap } ∧ tn (i + 1) s7.heap ∧ ∀ b ∈ fp, H7 b = none := fun {σ7 H7 s7} I7 => by
    obtain ⟨e7, n7, _⟩ := I7.pin (D, _) (List.mem_append_right _ (List.mem_append_left _ (List.mem_singleton.mpr rfl)))
    refine ⟨n7, e7, T.keep _ _ _ st5 fun b hb o e => (I7.pin (b, o) (List.mem_append_right _ (List.mem_append_right _ (a3E hb e)))).1, fun b hb => ?_⟩
    obtain ⟨o, e, d⟩ := T.obj _ _ st5 b hb
    exact (I7.pin (b, o) (List.mem_append_right _ (List.mem_append_right _ (a3E hb e)))).2.1
   have forget : ∀ {σ7 : St} {H7 : Hp} {s7 : Shared}, Inv (blk X N' scope C s2 H2 fp pins) ([(D, ({ cls := .type "list", data := .seq its.toArray cap } : Obj))] ++ a6I fp s5.heap) σ7 H7 s7 →
     (∀ (k : Nat) v, (pick ix σ)[k]? = some (some v) → σ7[k]? = some (some v)) → σ7.length = (pick ix σ).length → Inv (blk X N' scope C s2 H2 fp pins) [] (pick ix σ) H7 s7 := fun {σ7 H7 s7} I7 hk hl =>
    (I7.pins_of (pins' := []) fun _ z => nomatch z).weak hl.symm hk
   refine wpAny_noRaise (thn (hg C s2 H2 fp pins _ s5 (pick ix σ) H5 x u _ I5' r5 (ow _ _ _ _ _ ⟨rfl, fun _ _ _ => rfl⟩ (step x H5 y5))) fun _ s6 ⟨σ6, H6, I6, q6, l6, k6⟩ => ?_)
   have back : ∀ (k : Nat) v, (pick ix σ)[k]? = some (some v) → σ6[k]? = some (some v) := fun k v e => by
    obtain ⟨j, e1, _⟩ := b1c e
    rw [k6 k j e1]; exact e
   refine wpAny_noRaise (thn (ht C s2 H2 fp pins _ s6 σ6 H6 _ I6 q6) fun ok s7 ⟨H7, I7, q7⟩ => ?_)
   cases ok with
   | false =>
     rw [if_neg Bool.false_ne_true]
     rw [if_neg Bool.false_ne_true] at q7
     obtain ⟨m', hm, w7⟩ := q7
     obtain ⟨a1, a2, a3, a4⟩ := again I7
     exact ⟨m', hm, i + 1, ys, its, cap, H7, forget I7 back l6, a3, a4, a1, a2, r3, w7⟩
   | true =>
     rw [if_pos rfl]
     rw [if_pos rfl] at q7
     refine wpAny_noRaise (thn (he C s2 H2 fp pins _ s7 σ6 H7 _ I7 q7) fun z s8 ⟨y, H8, I8, r8, m', hm, w8⟩ => ?_)
     obtain ⟨a1, a2, a3, a4⟩ := again I8
     have hl := r3.length
     refine wpAny_noRaise (wpAny_list_append_plain ⟨_, a2⟩ (fun h9 ⟨cap9, p9⟩ sb9 => ?_) (by rw [List.size_toArray, ← hl]; exact Nat.le_of_lt hz))
     have I9 : Inv (blk X N' scope C s2 H2 fp pins) [] (pick ix σ) H8 { s8 with heap := h9 } :=
      (forget I8 back l6).turned (t' := s8.toks) (it := D) (fun b o hb e => sb9.extBut b o hb e) a1 hDC (.inr hDge) (fun x c e => by
       rcases a2m I2 S C e with ⟨a1, a2⟩ | ⟨a1, a2⟩
       ·exact Nat.ne_of_gt (Nat.lt_trans hDlt a1)
       ·obtain ⟨v, z⟩ := I2.cell x c a2
        exact Nat.ne_of_lt (Nat.lt_of_lt_of_le z.lt hDge)) (fun p hp => by
       have hp' : p ∈ (X.pn ++ pins) ++ [] := hp
       exact Nat.ne_of_lt (Nat.lt_of_lt_of_le (Heap.lt_size (I2.pin p (by simpa using hp')).1) hDge))
     refine ⟨m', hm, i + 1, ys ++ [y], its ++ [z], cap9, H8, I9, ?_, a4, a1, ?_, r3.append (.cons r8 .nil), w8⟩
     ·refine T.keep _ _ _ a3 fun b hb o e => sb9.extBut b o ?_ e
      obtain ⟨o', ho'⟩ := hfo b hb
      exact Nat.ne_of_lt (Nat.lt_of_lt_of_le (Heap.lt_size ho') hDge)
     ·rw [p9]; simp
 exact codeAny_compStart_list (loop _ rfl) (T.self _ _ _ _ _ (T.keep _ _ _ st2 fun b _ o e => old b o e) (loop _ rfl))
theorem b8l {elt iter tg : Expr} {ifs : List Expr} {pos : Pos} {wi : TI} {g : TG} {tt : TT} {te : TE} (hc : X.calm = true) (hi : PI X tg iter wi) (S : BlkScope X N' ix scope) (ow : Own ix g)
  (hg : ∀ C s H fp pins, PG (blk X N' scope C s H fp pins) tg g) (ht : ∀ C s H fp pins, PTs (blk X N' scope C s H fp pins) ifs tt) (he : ∀ C s H fp pins, PE (blk X N' scope C s H fp pins) elt te)
  (hs : ∀ x, foldedSetIterable iter X.env x = pure x := by intro _; rfl) :
  PE X (.ListComp elt [⟨tg, iter, ifs, 0⟩] scope pos) (b5m wi ix g tt te) := by
 intro pins s σ H Q I h
 rw [eval_ListComp]
 exact a9s none (EP X pins σ Q) hc hi S ow hg ht he hs pins s σ H Q I h fun C D H5 s4 m hn _ inv q => ⟨m, hn, fun h' sb => ⟨.ref D, H5, inv h' sb, rfl, q⟩⟩
theorem b8g {i : Nat} {x : Str} {elt iter tg : Expr} {ifs : List Expr} {pos pos' spos : Pos} {wi : TI} {g : TG} {tt : TT} {te : TE} (hN : X.N.Nodup) (hi' : X.N[i]? = some x) (hx : Loc X.env.scope x) (hc : X.calm = true) (hi : PI X tg iter wi) (S : BlkScope X N' ix scope) (ow : Own ix g)
  (hg : ∀ C s H fp pins, PG (blk X N' scope C s H fp pins) tg g) (ht : ∀ C s H fp pins, PTs (blk X N' scope C s H fp pins) ifs tt) (he : ∀ C s H fp pins, PE (blk X N' scope C s H fp pins) elt te)
  (hsw : swapsWith (.ListComp elt [⟨tg, iter, ifs, 0⟩] scope pos) (some (.Name x pos')) spos.line X.env = pure true)
  (hs : ∀ x, foldedSetIterable iter X.env x = pure x := by intro _; rfl) (hf : X.fn x = true ∨ X.env.scope.names.lookup x = some .local := by first | exact .inl rfl | exact .inr rfl | assumption) :
  PS X (.Assign [.Name x pos'] (.ListComp elt [⟨tg, iter, ifs, 0⟩] scope pos) spos) (tAsg (b5m wi ix g tt te) (a9i i)) := by
 intro pins s σ H D I h
 rw [exec_Assign_Name_used _ _ _ _ hsw]
 refine wpAny_bind (wpAny_standAt (wpAny_bind ?_))
 show wpAny _ X.A (do let _ ← comprehension (.ListComp elt [⟨tg, iter, ifs, 0⟩] scope pos) scope X.env _ (newList []) false (eval iter X.env) (some (assign (.Name x pos') X.env))) _ _ s
 refine wpAny_bind (thn (a9s (some (assign (.Name x pos') X.env)) (fun _ s' => SP X pins D .next s') hc hi S ow hg ht he hs pins s σ H _ I h ?_) fun _ s' hq => wpAny_pure (wpAny_pure hq))
 intro C D2 H5 s4 m hn fp inv q
 have I5 : Inv X pins σ H5 s4 := inv s4.heap (Heap.SameBut.refl _ _)
 refine wpAny_assign_Name (a8u I5 hN hi' hx (v := .ref D2) rfl (fun s5 I6 ⟨a, sb, ha⟩ => ?_) hf)
 obtain ⟨f0, f1, f2, f3, f4, f5⟩ := fp
 have hac : a ≠ C := by
  rcases ha with rfl | ha
  ·exact Ne.symm f1
  ·exact f4 x a ha
 refine ⟨m, hn.sameBut sb (Ne.symm hac), fun h' sb' => ⟨_, H5, I6.turned (t' := s5.toks) (it := C) (fun b o hb e => sb'.extBut b o hb e) f0 f1 f3 f4 f5, q⟩⟩
noncomputable def a7r (scope outer : Scope) : Scope :=
 { scope with names := scope.names.map fun (n, k) => if (k == .free && outer.kind == .function && outer.names.lookup n == some .cell) then (n, .cell) else (n, k) }
theorem a8F {scope : Scope} {env : Env} {x : Str} {k : NameKind} (h : (relabel scope env).names.lookup x = some k) (hk : k = .cell ∨ k = .free) : (x, NameKind.free) ∈ scope.names ∨ (x, NameKind.cell) ∈ scope.names := by
 have hm : (x, k) ∈ (relabel scope env).names := PySem.mem_of_lookup h
 unfold relabel at hm
 obtain ⟨⟨n, k0⟩, h1, h2⟩ := List.mem_map.mp hm
 dsimp only at h2
 split at h2
 ·rename_i hc
  have e1 : n = x := (Prod.mk.inj h2).1
  subst e1
  have : k0 = NameKind.free := by
   simp only [Bool.and_eq_true, beq_iff_eq] at hc
   exact hc.1.1
  rw [this] at h1; exact .inl h1
 ·have e1 := Prod.mk.inj h2
  obtain ⟨rfl, rfl⟩ := e1
  rcases hk with rfl | rfl
  ·exact .inr h1
  ·exact .inl h1
noncomputable def blkB (outer : Scope) (N N' : List Str) (ix : List (Option Nat)) (scope : Scope) : Bool :=
 decide (scope.kind = .function) && decide (outer.kind = .function) && scope.names.all (fun y => decide (y.2 = .local → scope.names.lookup y.1 = some .local)) &&
 scope.names.all (fun y => decide (y.2 = .free → (outer.names.lookup y.1 = some .cell ∨ outer.names.lookup y.1 = some .free))) && decide (ix.length = N'.length) &&
 (List.range ix.length).all fun i => match ix[i]?, N'[i]? with
  | some (some j), some x => decide (N[j]? = some x) && decide ((x, NameKind.free) ∈ scope.names) && !ownB scope.names x &&
    decide ((a7r scope outer).names.lookup x = outer.names.lookup x)
  | _, _ => true
theorem a0T {X : Cx} {outer scope : Scope} {N N' : List Str} {ix : List (Option Nat)} (h : blkB outer N N' ix scope = true) (ho : X.env.scope = outer) (hN : X.N = N) : BlkScope X N' ix scope := by
 unfold blkB at h
 simp only [Bool.and_eq_true, decide_eq_true_eq, List.all_eq_true] at h
 obtain ⟨⟨⟨⟨⟨h1, h2⟩, h4⟩, h5⟩, h6⟩, h7⟩ := h
 subst ho hN
 refine ⟨h1, h4, h5, fun x k hl hk => a8F hl hk, h6, fun i j x e1 e2 => ?_⟩
 have hi : i < ix.length := (List.getElem?_eq_some_iff.mp e1).1
 have q := h7 i (List.mem_range.mpr hi)
 rw [e1, e2] at q
 simp only [Bool.and_eq_true, decide_eq_true_eq, Bool.not_eq_true'] at q
 exact ⟨q.1.1.1, q.1.1.2, q.1.2, q.2⟩
theorem b2P {X : Cx} {outer scope0 scope : Scope} {N N' N0 : List Str} {ix : List (Option Nat)} {C : Addr} {s : Shared} {H : Hp} {fp : List Addr} {pins : List (Addr × Obj)} (h : blkB (a7r scope0 outer) N N' ix scope = true) (ho : X.env.scope = outer) (hN : N0 = N) : BlkScope (blk X N0 scope0 C s H fp pins) N' ix scope :=
 a0T (outer := a7r scope0 outer) h (by rw [← ho]; rfl) hN
theorem PE.imp {X : Cx} {e : Expr} {t t' : TE} (h : PE X e t) (f : ∀ σ H Q, t' σ H Q → t σ H Q) : PE X e t' := fun pins s σ H Q I q => h pins s σ H Q I (f σ H Q q)
theorem PT.imp {X : Cx} {e : Expr} {t t' : TT} (h : PT X e t) (f : ∀ σ H Q, t' σ H Q → t σ H Q) : PT X e t' := fun pins s σ H Q I q => h pins s σ H Q I (f σ H Q q)
theorem PA.imp {X : Cx} {e : List Expr} {t t' : TA} (h : PA X e t) (f : ∀ σ H Q, t' σ H Q → t σ H Q) : PA X e t' := fun pos pins s σ H Q I q => h pos pins s σ H Q I (f σ H Q q)
theorem PS.imp {X : Cx} {e : Stmt} {t t' : TS} (h : PS X e t) (f : ∀ D σ H, t' D σ H → t D σ H) : PS X e t' := fun pins s σ H D I q => h pins s σ H D I (f D σ H q)
theorem PSs.imp {X : Cx} {e : List Stmt} {t t' : TS} (h : PSs X e t) (f : ∀ D σ H, t' D σ H → t D σ H) : PSs X e t' := fun pins s σ H D I q => h pins s σ H D I (f D σ H q)
inductive T where
 | non | bl (b : Bool) | int (i : Int) | str (x : Str) | tup (ts : List T) | adr (a : Addr)
 /-- a list that never changes (the script; a module's own) -/
 | rd (ts : List T)
 /-- a dict with int keys that never changes behind its display -/
 | dic (ks : List Int) (ts : List T)
noncomputable def FzL (K : PySem.W.Frag) (H : Hp) (a : Addr) (xs : List V) : Prop :=
 (∃ o, H a = some (.frz o (.lst xs))) ∨
  ∃ (o : Obj) (its : Array Value) (n : Nat), K.lookup a = some o ∧ o.cls = .type "list" ∧ o.dict = none ∧ o.data = .seq its n ∧ its.size ≤ sizeLine ∧ Vals xs its.toList
theorem FzL.sq {K : PySem.W.Frag} {H : Hp} {a : Addr} {xs : List V} (h : FzL K H a xs) : SqL K H a xs := by
 rcases h with ⟨o, h⟩ | h
 ·exact .inl (.inr ⟨o, h⟩)
 ·exact .inr h
mutual
noncomputable def Rep (K : PySem.W.Frag) (H : Hp) : V → T → Prop
 | v, .non => v = .non
 | v, .bl b => v = .bl b
 | v, .int i => v = .int i
 | v, .str x => v = .str x
 | v, .adr a => v = .ref a
 | v, .tup ts => ∃ a xs, v = .ref a ∧ SqT K H a xs ∧ Reps K H xs ts
 | v, .rd ts => ∃ a xs, v = .ref a ∧ FzL K H a xs ∧ Reps K H xs ts
 | v, .dic _ _ => False
noncomputable def Reps (K : PySem.W.Frag) (H : Hp) : List V → List T → Prop
 | vs, [] => vs = []
 | vs, t :: ts => ∃ v r, vs = v :: r ∧ Rep K H v t ∧ Reps K H r ts
end
structure Kp (K : PySem.W.Frag) (H H' : Hp) : Prop where
 tup : ∀ a xs, SqT K H a xs → SqT K H' a xs
 frz : ∀ a o u, H a = some (.frz o u) → H' a = some (.frz o u)
theorem Kp.refl {K : PySem.W.Frag} {H : Hp} : Kp K H H := ⟨fun _ _ h => h, fun _ _ _ h => h⟩
theorem Kp.trans {K : PySem.W.Frag} {H H1 H2 : Hp} (a : Kp K H H1) (b : Kp K H1 H2) : Kp K H H2 := ⟨fun _ _ h => b.tup _ _ (a.tup _ _ h), fun _ _ _ h => b.frz _ _ _ (a.frz _ _ _ h)⟩
structure KpW (K : PySem.W.Frag) (H H' : Hp) : Prop where
 tup : ∀ a xs, SqT K H a xs → SqT K H' a xs
 frz : ∀ a o u, H a = some (.frz o u) → H' a = some (.frz o u)
theorem Kp.w {K : PySem.W.Frag} {H H' : Hp} (k : Kp K H H') : KpW K H H' := ⟨k.tup, k.frz⟩
theorem KpW.fz {K : PySem.W.Frag} {H H' : Hp} {a : Addr} {xs : List V} (k : KpW K H H') (h : FzL K H a xs) : FzL K H' a xs := by
 rcases h with ⟨o, h⟩ | h
 ·exact .inl ⟨o, k.frz _ _ _ h⟩
 ·exact .inr h
mutual
theorem Rep.kw {K : PySem.W.Frag} {H H' : Hp} (k : KpW K H H') : ∀ (v : V) (t : T), Rep K H v t → Rep K H' v t
 | v, .non, h => h
 | v, .bl b, h => h
 | v, .int i, h => h
 | v, .str x, h => h
 | v, .adr a, h => h
 | v, .tup ts, h => by
   unfold Rep at h ⊢
   obtain ⟨a, xs, e, h1, h2⟩ := h
   exact ⟨a, xs, e, k.tup _ _ h1, Reps.kw k xs ts h2⟩
 | v, .rd ts, h => by
   unfold Rep at h ⊢
   obtain ⟨a, xs, e, h1, h2⟩ := h
   exact ⟨a, xs, e, k.fz h1, Reps.kw k xs ts h2⟩
 | v, .dic ks ts, h => by
   unfold Rep at h; exact h.elim
theorem Reps.kw {K : PySem.W.Frag} {H H' : Hp} (k : KpW K H H') : ∀ (vs : List V) (ts : List T), Reps K H vs ts → Reps K H' vs ts
 | vs, [], h => h
 | vs, t :: ts, h => by
   unfold Reps at h ⊢
   obtain ⟨v, r, e, h1, h2⟩ := h
   exact ⟨v, r, e, Rep.kw k v t h1, Reps.kw k r ts h2⟩
end
theorem Rep.kp {K : PySem.W.Frag} {H H' : Hp} (k : Kp K H H') (v : V) (t : T) (h : Rep K H v t) : Rep K H' v t := Rep.kw k.w v t h
theorem Reps.kp {K : PySem.W.Frag} {H H' : Hp} (k : Kp K H H') (vs : List V) (ts : List T) (h : Reps K H vs ts) : Reps K H' vs ts := Reps.kw k.w vs ts h
section
variable {K : PySem.W.Frag} {H : Hp}
theorem Reps.cons {v : V} {t : T} {vs : List V} {ts : List T} (h : Rep K H v t) (r : Reps K H vs ts) : Reps K H (v :: vs) (t :: ts) := by
 unfold Reps; exact ⟨v, vs, rfl, h, r⟩
theorem Reps.nil : Reps K H [] [] := by unfold Reps; rfl
theorem Reps.length : ∀ {vs : List V} {ts : List T}, Reps K H vs ts → vs.length = ts.length
 | vs, [], h => by unfold Reps at h; subst h; rfl
 | vs, t :: ts, h => by
   unfold Reps at h
   obtain ⟨v, r, rfl, _, h2⟩ := h
   rw [List.length_cons, List.length_cons, Reps.length h2]
theorem Reps.get : ∀ {vs : List V} {ts : List T} {i : Nat} {t : T}, Reps K H vs ts → ts[i]? = some t → ∃ v, vs[i]? = some v ∧ Rep K H v t
 | _, [], _, _, _, e => by simp at e
 | vs, t :: ts, 0, u, h, e => by
   unfold Reps at h
   obtain ⟨v, r, rfl, h1, _⟩ := h
   simp at e; subst e
   exact ⟨v, rfl, h1⟩
 | vs, t :: ts, i + 1, u, h, e => by
   unfold Reps at h
   obtain ⟨v, r, rfl, _, h2⟩ := h
   obtain ⟨w, q1, q2⟩ := Reps.get (i := i) h2 (by simpa using e)
   exact ⟨w, by simpa using q1, q2⟩
theorem Reps.append : ∀ {vs : List V} {ts : List T} {ws : List V} {us : List T}, Reps K H vs ts → Reps K H ws us → Reps K H (vs ++ ws) (ts ++ us)
 | vs, [], _, _, h, g => by unfold Reps at h; subst h; exact g
 | vs, t :: ts, _, _, h, g => by
   unfold Reps at h
   obtain ⟨v, r, rfl, h1, h2⟩ := h
   exact .cons h1 (Reps.append h2 g)
theorem Reps.take : ∀ {vs : List V} {ts : List T} (n : Nat), Reps K H vs ts → Reps K H (vs.take n) (ts.take n)
 | _, _, 0, _ => .nil
 | vs, [], n + 1, h => by unfold Reps at h; subst h; exact .nil
 | vs, t :: ts, n + 1, h => by
   unfold Reps at h
   obtain ⟨v, r, rfl, h1, h2⟩ := h
   exact .cons h1 (Reps.take n h2)
theorem Reps.drop : ∀ {vs : List V} {ts : List T} (n : Nat), Reps K H vs ts → Reps K H (vs.drop n) (ts.drop n)
 | _, _, 0, h => h
 | vs, [], n + 1, h => by unfold Reps at h; subst h; exact .nil
 | vs, t :: ts, n + 1, h => by
   unfold Reps at h
   obtain ⟨v, r, rfl, h1, h2⟩ := h
   exact Reps.drop n h2
theorem Reps.set {v : V} {t : T} (g : Rep K H v t) : ∀ {vs : List V} {ts : List T} (n : Nat), Reps K H vs ts → Reps K H (vs.set n v) (ts.set n t)
 | vs, [], n, h => by unfold Reps at h; subst h; exact .nil
 | vs, u :: ts, 0, h => by
   unfold Reps at h
   obtain ⟨v, r, rfl, h1, h2⟩ := h
   exact .cons g h2
 | vs, u :: ts, n + 1, h => by
   unfold Reps at h
   obtain ⟨v, r, rfl, h1, h2⟩ := h
   exact .cons h1 (Reps.set g n h2)
theorem Reps.reverse : ∀ {vs : List V} {ts : List T}, Reps K H vs ts → Reps K H vs.reverse ts.reverse
 | vs, [], h => by unfold Reps at h; subst h; exact .nil
 | vs, u :: ts, h => by
   unfold Reps at h
   obtain ⟨v, r, rfl, h1, h2⟩ := h
   rw [List.reverse_cons, List.reverse_cons]
   exact (Reps.reverse h2).append (.cons h1 .nil)
theorem Reps.ints : ∀ {vs : List V} {ns : List Int}, Reps K H vs (ns.map T.int) → vs = ns.map V.int
 | vs, [], h => by unfold Reps at h; exact h
 | vs, n :: ns, h => by
   have h' : Reps K H vs (T.int n :: ns.map T.int) := h
   unfold Reps at h'
   obtain ⟨v, r, rfl, h1, h2⟩ := h'
   unfold Rep at h1
   subst h1
   rw [List.map_cons, Reps.ints h2]
theorem Reps.of_ints : ∀ (ns : List Int), Reps K H (ns.map V.int) (ns.map T.int)
 | [] => .nil
 | n :: ns => .cons (by unfold Rep; rfl) (Reps.of_ints ns)
end
inductive MO where
 /-- a list that may be written -/
 | lst (ts : List T)
 /-- a dict that may be written: keys whole numbers or texts -/
 | dk (kvs : List (Key × T))
 /-- the same, keys tuples of such -/
 | dt (kvs : List (List Key × T))
 /-- the same, walked: it may not be written any more -/
 | fz (kvs : List (List Key × T))
 /-- a dict with keys whole numbers or texts that may not be written any more (a walk may go over it) -/
 | fk (kvs : List (Key × T))
noncomputable abbrev MH := Addr → Option MO
noncomputable def updM (M : MH) (a : Addr) (o : MO) : MH := fun b => if b = a then some o else M b
theorem a0c {M : MH} {a : Addr} {o : MO} : updM M a o a = some o := if_pos rfl
theorem a1F {M : MH} {a b : Addr} {o : MO} (h : b ≠ a) : updM M a o b = M b := if_neg h
noncomputable def Sub (M M' : MH) : Prop := ∀ a o, M a = some o → M' a = some o
theorem Sub.refl {M : MH} : Sub M M := fun _ _ h => h
theorem Sub.trans {M M1 M2 : MH} (a : Sub M M1) (b : Sub M1 M2) : Sub M M2 := fun _ _ h => b _ _ (a _ _ h)
theorem Sub.new {M : MH} {p : Addr} {o : MO} (h : M p = none) : Sub M (updM M p o) := fun b u q => by
 rw [a1F]
 ·exact q
 ·rintro rfl
  rw [h] at q; cases q
noncomputable def KRep {κ : Type} (K : PySem.W.Frag) (H : Hp) : List (κ × V) → List (κ × T) → Prop
 | [], [] => True
 | p :: r, q :: u => p.1 = q.1 ∧ Rep K H p.2 q.2 ∧ KRep K H r u
 | _, _ => False
theorem KRep.kp {κ : Type} {K : PySem.W.Frag} {H H' : Hp} (k : Kp K H H') : ∀ {xs : List (κ × V)} {kvs : List (κ × T)}, KRep K H xs kvs → KRep K H' xs kvs
 | [], [], _ => trivial
 | p :: r, q :: u, h => ⟨h.1, Rep.kp k _ _ h.2.1, KRep.kp k h.2.2⟩
 | [], q :: u, h => h.elim
 | p :: r, [], h => h.elim
theorem KRep.length {κ : Type} {K : PySem.W.Frag} {H : Hp} : ∀ {xs : List (κ × V)} {kvs : List (κ × T)}, KRep K H xs kvs → xs.length = kvs.length
 | [], [], _ => rfl
 | p :: r, q :: u, h => by rw [List.length_cons, List.length_cons, KRep.length h.2.2]
 | [], q :: u, h => h.elim
 | p :: r, [], h => h.elim
noncomputable def MOk (K : PySem.W.Frag) (H : Hp) (a : Addr) : MO → Prop
 | .lst ts => ∃ xs, H a = some (.lst xs) ∧ Reps K H xs ts
 | .dk kvs => ∃ xs, H a = some (.dK xs) ∧ KRep K H xs kvs
 | .dt kvs => ∃ xs, H a = some (.dT xs) ∧ KRep K H xs kvs
 | .fz kvs => ∃ o xs, H a = some (.frz o (.dT xs)) ∧ KRep K H xs kvs
 | .fk kvs => ∃ xs, Rd H a (.dK xs) ∧ KRep K H xs kvs
noncomputable def HR (K : PySem.W.Frag) (H : Hp) (M : MH) : Prop := ∀ a o, M a = some o → MOk K H a o
theorem HR.sub {K : PySem.W.Frag} {H : Hp} {M M' : MH} (h : HR K H M') (s : Sub M M') : HR K H M := fun a o e => h a o (s a o e)
noncomputable abbrev En := List (Option T)
noncomputable def RhoR (K : PySem.W.Frag) (σ : St) (H : Hp) (ρ : En) : Prop := σ.length = ρ.length ∧ ∀ (i : Nat) (t : T), ρ[i]? = some (some t) → ∃ v, σ[i]? = some (some v) ∧ Rep K H v t
theorem RhoR.kp {K : PySem.W.Frag} {σ : St} {H H' : Hp} {ρ : En} (h : RhoR K σ H ρ) (k : Kp K H H') : RhoR K σ H' ρ := ⟨h.1, fun i t e => let ⟨v, a, b⟩ := h.2 i t e; ⟨v, a, Rep.kp k _ _ b⟩⟩
theorem RhoR.set {K : PySem.W.Frag} {σ : St} {H : Hp} {ρ : En} {v : V} {t : T} (h : RhoR K σ H ρ) (i : Nat) (r : Rep K H v t) : RhoR K (σ.set i (some v)) H (ρ.set i (some t)) := by
 refine ⟨by rw [List.length_set, List.length_set, h.1], fun j u e => ?_⟩
 by_cases hj : i = j
 ·subst hj
  have hi : i < ρ.length := by
   have := (List.getElem?_eq_some_iff.mp e).1
   rwa [List.length_set] at this
  rw [List.getElem?_set_self hi] at e
  cases e
  exact ⟨v, List.getElem?_set_self (show i < List.length σ by rw [h.1]; exact hi), r⟩
 ·rw [List.getElem?_set_ne hj] at e
  rw [List.getElem?_set_ne hj]
  exact h.2 j u e
noncomputable abbrev VK3 := T → MH → Prop
noncomputable abbrev TE3 := En → MH → VK3 → Prop
noncomputable abbrev TT3 := En → MH → (Bool → MH → Prop) → Prop
noncomputable abbrev TA3 := En → MH → (List T → MH → Prop) → Prop
structure Ends3 where
 nx : En → MH → Prop
 rt : VK3
 bk : En → MH → Prop := fun _ _ => False
 ct : En → MH → Prop := fun _ _ => False
noncomputable abbrev TS3 := Ends3 → En → MH → Prop
noncomputable def EndE (K : PySem.W.Frag) (H : Hp) (Q : VK3) (Q2 : VK) : Prop := ∀ t v M' H', Kp K H H' → HR K H' M' → Rep K H' v t → Q t M' → Q2 v H'
theorem EndE.kp {K : PySem.W.Frag} {H H' : Hp} {Q : VK3} {Q2 : VK} (h : EndE K H Q Q2) (k : Kp K H H') : EndE K H' Q Q2 := fun t v M' H1 k1 => h t v M' H1 (k.trans k1)
noncomputable def bE (K : PySem.W.Frag) (ρ : En) (M : MH) (Q : VK3) : TE := fun σ H Q2 => RhoR K σ H ρ ∧ HR K H M ∧ EndE K H Q Q2
noncomputable def HE (X : Cx) (e : Expr) (t : TE3) : Prop := ∀ ρ M Q, t ρ M Q → PE X e (bE X.K ρ M Q)
noncomputable def EndT (K : PySem.W.Frag) (H : Hp) (Q : Bool → MH → Prop) (Q2 : Bool → Hp → Prop) : Prop := ∀ b M' H', Kp K H H' → HR K H' M' → Q b M' → Q2 b H'
noncomputable def bT (K : PySem.W.Frag) (ρ : En) (M : MH) (Q : Bool → MH → Prop) : TT := fun σ H Q2 => RhoR K σ H ρ ∧ HR K H M ∧ EndT K H Q Q2
noncomputable def HT (X : Cx) (e : Expr) (t : TT3) : Prop := ∀ ρ M Q, t ρ M Q → PT X e (bT X.K ρ M Q)
noncomputable def EndA (K : PySem.W.Frag) (H : Hp) (Q : List T → MH → Prop) (Q2 : List V → Hp → Prop) : Prop := ∀ ts vs M' H', Kp K H H' → HR K H' M' → Reps K H' vs ts → Q ts M' → Q2 vs H'
noncomputable def bA (K : PySem.W.Frag) (ρ : En) (M : MH) (Q : List T → MH → Prop) : TA := fun σ H Q2 => RhoR K σ H ρ ∧ HR K H M ∧ EndA K H Q Q2
noncomputable def HA (X : Cx) (es : List Expr) (t : TA3) : Prop := ∀ ρ M Q, t ρ M Q → PA X es (bA X.K ρ M Q)
structure EndS (K : PySem.W.Frag) (H : Hp) (D : Ends3) (D2 : Ends) : Prop where
 nx : ∀ ρ' M' σ' H', Kp K H H' → RhoR K σ' H' ρ' → HR K H' M' → D.nx ρ' M' → D2.nx σ' H'
 rt : EndE K H D.rt D2.rt
 bk : ∀ ρ' M' σ' H', Kp K H H' → RhoR K σ' H' ρ' → HR K H' M' → D.bk ρ' M' → D2.bk σ' H'
 ct : ∀ ρ' M' σ' H', Kp K H H' → RhoR K σ' H' ρ' → HR K H' M' → D.ct ρ' M' → D2.ct σ' H'
theorem EndS.kp {K : PySem.W.Frag} {H H' : Hp} {D : Ends3} {D2 : Ends} (h : EndS K H D D2) (k : Kp K H H') : EndS K H' D D2 :=
 ⟨fun a b c d k1 => h.nx a b c d (k.trans k1), h.rt.kp k, fun a b c d k1 => h.bk a b c d (k.trans k1), fun a b c d k1 => h.ct a b c d (k.trans k1)⟩
noncomputable def bS (K : PySem.W.Frag) (D : Ends3) (ρ : En) (M : MH) : TS := fun D2 σ H => RhoR K σ H ρ ∧ HR K H M ∧ EndS K H D D2
noncomputable def HS (X : Cx) (st : Stmt) (t : TS3) : Prop := ∀ D ρ M, t D ρ M → PS X st (bS X.K D ρ M)
noncomputable def HSs (X : Cx) (st : List Stmt) (t : TS3) : Prop := ∀ D ρ M, t D ρ M → PSs X st (bS X.K D ρ M)
noncomputable def dE (K : PySem.W.Frag) (ρ : En) (t : TE3) : TE := fun σ H Q2 => ∃ M Q, t ρ M Q ∧ bE K ρ M Q σ H Q2
noncomputable def dT (K : PySem.W.Frag) (ρ : En) (t : TT3) : TT := fun σ H Q2 => ∃ M Q, t ρ M Q ∧ bT K ρ M Q σ H Q2
noncomputable def dA (K : PySem.W.Frag) (ρ : En) (t : TA3) : TA := fun σ H Q2 => ∃ M Q, t ρ M Q ∧ bA K ρ M Q σ H Q2
noncomputable def dS (K : PySem.W.Frag) (t : TS3) : TS := fun D2 σ H => ∃ D ρ M, t D ρ M ∧ bS K D ρ M D2 σ H
section
variable {X : Cx} {e : Expr} {es : List Expr} {st : Stmt} {sts : List Stmt} {ρ : En}
theorem HE.d {t : TE3} (h : HE X e t) : PE X e (dE X.K ρ t) := fun pins s σ H Q I ⟨M, Q3, q, b⟩ => h ρ M Q3 q pins s σ H Q I b
theorem HT.d {t : TT3} (h : HT X e t) : PT X e (dT X.K ρ t) := fun pins s σ H Q I ⟨M, Q3, q, b⟩ => h ρ M Q3 q pins s σ H Q I b
theorem HA.d {t : TA3} (h : HA X es t) : PA X es (dA X.K ρ t) := fun pos pins s σ H Q I ⟨M, Q3, q, b⟩ => h ρ M Q3 q pos pins s σ H Q I b
theorem HS.d {t : TS3} (h : HS X st t) : PS X st (dS X.K t) := fun pins s σ H D I ⟨D3, ρ, M, q, b⟩ => h D3 ρ M q pins s σ H D I b
theorem HSs.d {t : TS3} (h : HSs X sts t) : PSs X sts (dS X.K t) := fun pins s σ H D I ⟨D3, ρ, M, q, b⟩ => h D3 ρ M q pins s σ H D I b
end
mutual
noncomputable def eqT : T → T → Bool
 | .non, .non => true
 | .bl a, .bl b => a == b
 | .bl a, .int b => (if a then 1 else 0) == b
 | .int a, .bl b => a == (if b then 1 else 0)
 | .int a, .int b => a == b
 | .str a, .str b => a == b
 | .tup a, .tup b => eqTs a b
 | _, _ => false
noncomputable def eqTs : List T → List T → Bool
 | [], [] => true
 | x :: xs, y :: ys => eqT x y && eqTs xs ys
 | _, _ => false
end
mutual
noncomputable def a0t : T → Bool
 | .adr _ => false
 | .rd _ => false
 | .dic _ _ => false
 | .tup ts => a1V ts
 | _ => true
noncomputable def a1V : List T → Bool
 | [] => true
 | t :: ts => a0t t && a1V ts
end
mutual
noncomputable def depT : T → Nat
 | .tup ts => a4t ts + 1
 | _ => 0
noncomputable def a4t : List T → Nat
 | [] => 0
 | t :: ts => max (depT t) (a4t ts)
end
theorem a2R : ∀ {ts : List T} {j : Nat} {t : T}, a1V ts = true → ts[j]? = some t → a0t t = true
 | [], _, _, _, e => by simp at e
 | x :: ts, 0, t, h, e => by simp at e; subst e; unfold a1V at h; exact (Bool.and_eq_true _ _ ▸ h).1
 | x :: ts, j + 1, t, h, e => by
   unfold a1V at h
   exact a2R (j := j) (Bool.and_eq_true _ _ ▸ h).2 (by simpa using e)
theorem a5W : ∀ {ts : List T} {j : Nat} {t : T}, ts[j]? = some t → depT t ≤ a4t ts
 | [], _, _, e => by simp at e
 | x :: ts, 0, t, e => by simp at e; subst e; unfold a4t; exact Nat.le_max_left _ _
 | x :: ts, j + 1, t, e => by
   have := a5W (ts := ts) (j := j) (t := t) (by simpa using e)
   unfold a4t; exact Nat.le_trans this (Nat.le_max_right _ _)
noncomputable def eqJ (xs ys : List T) (j : Nat) : Bool := match xs[j]?, ys[j]? with
 | some x, some y => eqT x y
 | _, _ => true
theorem a3H : ∀ (xs ys : List T), (((List.range (min xs.length ys.length)).all (eqJ xs ys)) && (xs.length == ys.length)) = eqTs xs ys
 | [], [] => by unfold eqTs; rfl
 | [], y :: ys => by unfold eqTs; simp
 | x :: xs, [] => by unfold eqTs; simp
 | x :: xs, y :: ys => by
   unfold eqTs
   rw [← a3H xs ys]
   rw [List.length_cons, List.length_cons, Nat.succ_min_succ, List.range_succ_eq_map, List.all_cons, List.all_map]
   have e1 : eqJ (x :: xs) (y :: ys) 0 = eqT x y := rfl
   have e2 : (eqJ (x :: xs) (y :: ys)) ∘ Nat.succ = eqJ xs ys := by
    funext j; simp [eqJ]
   rw [e1, e2, Bool.and_assoc]
   congr 2
   simp
theorem b1A : ∀ {xs ys : List T}, eqTs xs ys = true → xs.length = ys.length
 | [], [], _ => rfl
 | [], y :: ys, h => by unfold eqTs at h; cases h
 | x :: xs, [], h => by unfold eqTs at h; cases h
 | x :: xs, y :: ys, h => by
   unfold eqTs at h
   rw [Bool.and_eq_true] at h
   rw [List.length_cons, List.length_cons, b1A h.2]
mutual
theorem b1B : ∀ (x : T), a0t x = true → eqT x x = true
 | .non, _ => rfl
 | .bl b, _ => by simp [eqT]
 | .int i, _ => by simp [eqT]
 | .str x, _ => by simp [eqT]
 | .adr a, h => by unfold a0t at h; cases h
 | .rd a, h => by unfold a0t at h; cases h
 | .dic ks a, h => by unfold a0t at h; cases h
 | .tup ts, h => by unfold a0t at h; unfold eqT; exact a4r ts h
theorem a4r : ∀ (xs : List T), a1V xs = true → eqTs xs xs = true
 | [], _ => by unfold eqTs; rfl
 | x :: xs, h => by
   unfold a1V at h
   rw [Bool.and_eq_true] at h
   unfold eqTs
   rw [b1B x h.1, a4r xs h.2]
   rfl
end
section
variable {X : Cx} {pins : List (Addr × Obj)} {σ : St} {H : Hp} {s : Shared}
theorem b7M (I : Inv X pins σ H s) : ∀ (x y : T) (v : V), a0t x = true → a0t y = true → Rep X.K H v x → Rep X.K H v y → eqT x y = true := by
 have key : ∀ n (x y : T) (v : V), depT x ≤ n → a0t x = true → a0t y = true → Rep X.K H v x → Rep X.K H v y → eqT x y = true := by
  intro n
  induction n with
  | zero =>
    intro x y v hd px py rx ry
    cases x with
    | tup ts => unfold depT at hd; lia
    | adr a => unfold a0t at px; cases px
    | rd a => unfold a0t at px; cases px
    | dic ks a => unfold a0t at px; cases px
    | _ => unfold Rep at rx; subst rx; cases y <;> unfold Rep at ry <;> first | (obtain ⟨_, _, e, _⟩ := ry; cases e; done) | (unfold a0t at py; cases py; done) | (cases ry <;> simp [eqT])
  | succ n ih =>
    intro x y v hd px py rx ry
    cases x with
    | adr a => unfold a0t at px; cases px
    | rd a => unfold a0t at px; cases px
    | dic ks a => unfold a0t at px; cases px
    | tup ts =>
      unfold Rep at rx
      obtain ⟨a, xs, rfl, h1, h2⟩ := rx
      cases y with
      | adr a => unfold a0t at py; cases py
      | rd a => unfold a0t at py; cases py
      | dic ks a => unfold a0t at py; cases py
      | tup us =>
        unfold Rep at ry
        obtain ⟨a', ys, e, g1, g2⟩ := ry
        cases e
        obtain rfl := I.tuple_inj h1 g1
        unfold a0t at px py
        unfold depT at hd
        unfold eqT
        have hl := h2.length
        have hl2 := g2.length
        rw [← a3H]
        rw [← hl, ← hl2]
        simp only [Nat.min_self, beq_self_eq_true, Bool.and_true, List.all_eq_true, List.mem_range]
        intro j hj
        have e1 : ts[j]? = some ts[j] := List.getElem?_eq_getElem (by lia)
        have e2 : us[j]? = some us[j] := List.getElem?_eq_getElem (by lia)
        obtain ⟨v1, q1, r1⟩ := h2.get e1
        obtain ⟨v2, q2, r2⟩ := g2.get e2
        rw [q1] at q2; cases q2
        unfold eqJ
        rw [e1, e2]
        have := a5W e1
        exact ih _ _ _ (by lia) (a2R px e1) (a2R py e2) r1 r2
      | _ => unfold Rep at ry; cases ry
    | _ => unfold Rep at rx; subst rx; cases y <;> unfold Rep at ry <;> first | (obtain ⟨_, _, e, _⟩ := ry; cases e; done) | (unfold a0t at py; cases py; done) | (cases ry <;> simp [eqT])
 exact fun x y v => key (depT x) x y v (Nat.le_refl _)
open SeqAt in
theorem b4y {A : Around} (x y : T) (v u : V) (a b : Value) (px : a0t x = true) (py : a0t y = true) (rx : Rep X.K H v x) (ry : Rep X.K H u y) (ra : RelV v a) (rb : RelV u b) (nx : ∀ ts, x ≠ .tup ts) (ny : ∀ ts, y ≠ .tup ts) :
  SeqAt.EqAt A s a b (eqT x y) ∧ SeqAt.RcAt A s a b (eqT x y) ∧ SeqAt.RcNeAt A s a b (!(eqT x y)) := by
 cases x with
 | tup ts => exact absurd rfl (nx ts)
 | adr p => unfold a0t at px; cases px
 | rd p => unfold a0t at px; cases px
 | dic ks p => unfold a0t at px; cases px
 | non =>
   unfold Rep at rx; subst rx
   cases ra
   cases y with
   | tup ts => exact absurd rfl (ny ts)
   | adr p => unfold a0t at py; cases py
   | rd p => unfold a0t at py; cases py
   | dic ks p => unfold a0t at py; cases py
   | non =>
     unfold Rep at ry; subst ry
     cases rb
     have e : eqT .non .non = true := rfl
     rw [e]
     exact ⟨EqAt.same _, RcAt.none_none, RcNeAt.none_none⟩
   | bl c0 =>
     unfold Rep at ry; subst ry
     cases rb
     have e : eqT .non (.bl c0) = false := rfl
     rw [e]
     exact ⟨EqAt.none_bool _, RcAt.none_bool _, RcNeAt.none_bool _⟩
   | int c0 =>
     unfold Rep at ry; subst ry
     obtain ⟨t_rb, rfl⟩ := rb
     have e : eqT .non (.int c0) = false := rfl
     rw [e]
     exact ⟨EqAt.none_int _ _, RcAt.none_int _ _, RcNeAt.none_int _ _⟩
   | str c0 =>
     unfold Rep at ry; subst ry
     obtain ⟨t_rb, rfl⟩ := rb
     have e : eqT .non (.str c0) = false := rfl
     rw [e]
     exact ⟨EqAt.none_str _ _, RcAt.none_str _ _, RcNeAt.none_str _ _⟩
 | bl b0 =>
   unfold Rep at rx; subst rx
   cases ra
   cases y with
   | tup ts => exact absurd rfl (ny ts)
   | adr p => unfold a0t at py; cases py
   | rd p => unfold a0t at py; cases py
   | dic ks p => unfold a0t at py; cases py
   | non =>
     unfold Rep at ry; subst ry
     cases rb
     have e : eqT (.bl b0) .non = false := rfl
     rw [e]
     exact ⟨EqAt.bool_none _, RcAt.bool_none _, RcNeAt.bool_none _⟩
   | bl c0 =>
     unfold Rep at ry; subst ry
     cases rb
     have e : eqT (.bl b0) (.bl c0) = (b0 == c0) := rfl
     rw [e]
     exact ⟨EqAt.bool_bool _ _, RcAt.bool_bool _ _, RcNeAt.bool_bool _ _⟩
   | int c0 =>
     unfold Rep at ry; subst ry
     obtain ⟨t_rb, rfl⟩ := rb
     have e : eqT (.bl b0) (.int c0) = ((if b0 then 1 else 0) == c0) := rfl
     rw [e]
     exact ⟨EqAt.bool_int _ _ _, RcAt.bool_int _ _ _, RcNeAt.bool_int _ _ _⟩
   | str c0 =>
     unfold Rep at ry; subst ry
     obtain ⟨t_rb, rfl⟩ := rb
     have e : eqT (.bl b0) (.str c0) = false := rfl
     rw [e]
     exact ⟨EqAt.bool_str _ _ _, RcAt.bool_str _ _ _, RcNeAt.bool_str _ _ _⟩
 | int b0 =>
   unfold Rep at rx; subst rx
   obtain ⟨t_ra, rfl⟩ := ra
   cases y with
   | tup ts => exact absurd rfl (ny ts)
   | adr p => unfold a0t at py; cases py
   | rd p => unfold a0t at py; cases py
   | dic ks p => unfold a0t at py; cases py
   | non =>
     unfold Rep at ry; subst ry
     cases rb
     have e : eqT (.int b0) .non = false := rfl
     rw [e]
     exact ⟨EqAt.int_none _ _, RcAt.int_none _ _, RcNeAt.int_none _ _⟩
   | bl c0 =>
     unfold Rep at ry; subst ry
     cases rb
     have e : eqT (.int b0) (.bl c0) = (b0 == (if c0 then 1 else 0)) := rfl
     rw [e]
     exact ⟨EqAt.int_bool _ _ _, RcAt.int_bool _ _ _, RcNeAt.int_bool _ _ _⟩
   | int c0 =>
     unfold Rep at ry; subst ry
     obtain ⟨t_rb, rfl⟩ := rb
     have e : eqT (.int b0) (.int c0) = (b0 == c0) := rfl
     rw [e]
     exact ⟨EqAt.int_int _ _ _ _, RcAt.int_int _ _ _ _, RcNeAt.int_int _ _ _ _⟩
   | str c0 =>
     unfold Rep at ry; subst ry
     obtain ⟨t_rb, rfl⟩ := rb
     have e : eqT (.int b0) (.str c0) = false := rfl
     rw [e]
     exact ⟨EqAt.int_str _ _ _ _, RcAt.int_str _ _ _ _, RcNeAt.int_str _ _ _ _⟩
 | str b0 =>
   unfold Rep at rx; subst rx
   obtain ⟨t_ra, rfl⟩ := ra
   cases y with
   | tup ts => exact absurd rfl (ny ts)
   | adr p => unfold a0t at py; cases py
   | rd p => unfold a0t at py; cases py
   | dic ks p => unfold a0t at py; cases py
   | non =>
     unfold Rep at ry; subst ry
     cases rb
     have e : eqT (.str b0) .non = false := rfl
     rw [e]
     exact ⟨EqAt.str_none _ _, RcAt.str_none _ _, RcNeAt.str_none _ _⟩
   | bl c0 =>
     unfold Rep at ry; subst ry
     cases rb
     have e : eqT (.str b0) (.bl c0) = false := rfl
     rw [e]
     exact ⟨EqAt.str_bool _ _ _, RcAt.str_bool _ _ _, RcNeAt.str_bool _ _ _⟩
   | int c0 =>
     unfold Rep at ry; subst ry
     obtain ⟨t_rb, rfl⟩ := rb
     have e : eqT (.str b0) (.int c0) = false := rfl
     rw [e]
     exact ⟨EqAt.str_int _ _ _ _, RcAt.str_int _ _ _ _, RcNeAt.str_int _ _ _ _⟩
   | str c0 =>
     unfold Rep at ry; subst ry
     obtain ⟨t_rb, rfl⟩ := rb
     have e : eqT (.str b0) (.str c0) = (b0 == c0) := rfl
     rw [e]
     exact ⟨EqAt.str_str _ _ _ _, RcAt.str_str _ _ _ _, RcNeAt.str_str _ _ _ _⟩
theorem c2j {x : T} (h : ∀ ts, x ≠ .tup ts) : depT x = 0 := by
 cases x with
 | tup ts => exact absurd rfl (h ts)
 | _ => rfl
open SeqAt in
/-- a tuple against what is none -/
theorem b2H {A : Around} {p : Addr} {its : Array Value} (ht : s.heap.IsTuple p its) (hu : A.units < cLine) (x : T) (us : List T) (v : V) (a : Value) (px : a0t x = true) (rx : Rep X.K H v x) (ra : RelV v a) (nx : ∀ ts, x ≠ .tup ts) :
  SeqAt.EqAt A s a (.ref p) (eqT x (.tup us)) ∧ SeqAt.RcAt A s a (.ref p) (eqT x (.tup us)) ∧ SeqAt.RcNeAt A s a (.ref p) (!(eqT x (.tup us))) := by
 cases x with
 | tup ts => exact absurd rfl (nx ts)
 | adr q => unfold a0t at px; cases px
 | rd q => unfold a0t at px; cases px
 | dic ks q => unfold a0t at px; cases px
 | non =>
   unfold Rep at rx; subst rx; cases ra
   have e : eqT .non (.tup us) = false := rfl
   rw [e]; exact ⟨.none_tuple ht hu, .none_tuple ht hu, .none_tuple ht hu⟩
 | bl b0 =>
   unfold Rep at rx; subst rx; cases ra
   have e : eqT (.bl b0) (.tup us) = false := rfl
   rw [e]; exact ⟨.bool_tuple _ ht hu, .bool_tuple _ ht hu, .bool_tuple _ ht hu⟩
 | int b0 =>
   unfold Rep at rx; subst rx; obtain ⟨t, rfl⟩ := ra
   have e : eqT (.int b0) (.tup us) = false := rfl
   rw [e]; exact ⟨.int_tuple _ _ ht hu, .int_tuple _ _ ht hu, .int_tuple _ _ ht hu⟩
 | str b0 =>
   unfold Rep at rx; subst rx; obtain ⟨t, rfl⟩ := ra
   have e : eqT (.str b0) (.tup us) = false := rfl
   rw [e]; exact ⟨.str_tuple _ _ ht hu, .str_tuple _ _ ht hu, .str_tuple _ _ ht hu⟩
open SeqAt in
theorem b2I {A : Around} {p : Addr} {its : Array Value} (ht : s.heap.IsTuple p its) (hu : A.units < cLine) (x : T) (us : List T) (v : V) (a : Value) (px : a0t x = true) (rx : Rep X.K H v x) (ra : RelV v a) (nx : ∀ ts, x ≠ .tup ts) :
  SeqAt.EqAt A s (.ref p) a (eqT (.tup us) x) ∧ SeqAt.RcAt A s (.ref p) a (eqT (.tup us) x) ∧ SeqAt.RcNeAt A s (.ref p) a (!(eqT (.tup us) x)) := by
 cases x with
 | tup ts => exact absurd rfl (nx ts)
 | adr q => unfold a0t at px; cases px
 | rd q => unfold a0t at px; cases px
 | dic ks q => unfold a0t at px; cases px
 | non =>
   unfold Rep at rx; subst rx; cases ra
   have e : eqT (.tup us) .non = false := rfl
   rw [e]; exact ⟨.tuple_none ht hu, .tuple_none ht hu, .tuple_none ht hu⟩
 | bl b0 =>
   unfold Rep at rx; subst rx; cases ra
   have e : eqT (.tup us) (.bl b0) = false := rfl
   rw [e]; exact ⟨.tuple_bool _ ht hu, .tuple_bool _ ht hu, .tuple_bool _ ht hu⟩
 | int b0 =>
   unfold Rep at rx; subst rx; obtain ⟨t, rfl⟩ := ra
   have e : eqT (.tup us) (.int b0) = false := rfl
   rw [e]; exact ⟨.tuple_int _ _ ht hu, .tuple_int _ _ ht hu, .tuple_int _ _ ht hu⟩
 | str b0 =>
   unfold Rep at rx; subst rx; obtain ⟨t, rfl⟩ := ra
   have e : eqT (.tup us) (.str b0) = false := rfl
   rw [e]; exact ⟨.tuple_str _ _ ht hu, .tuple_str _ _ ht hu, .tuple_str _ _ ht hu⟩
theorem b0Q (x : T) : (∃ ts, x = .tup ts) ∨ ∀ ts, x ≠ .tup ts := by
 cases x with
 | tup ts => exact .inl ⟨ts, rfl⟩
 | _ => exact .inr fun ts e => by cases e
theorem b1r {A : Around} {n : Nat} {ts us : List T} {xs ys : List V} {its its2 : List Value} (px : a1V ts = true) (py : a1V us = true) (hd : a4t ts ≤ n) (h2 : Reps X.K H xs ts) (g2 : Reps X.K H ys us) (r1 : Vals xs its) (r2 : Vals ys its2)
  (ih : ∀ (x y : T) (v u : V) (a b : Value), depT x ≤ n → a0t x = true → a0t y = true → Rep X.K H v x → Rep X.K H u y → RelV v a → RelV u b → SeqAt.EqAt A s a b (eqT x y)) (j : Nat) (hj1 : j < its.toArray.size) (hj2 : j < its2.toArray.size) :
  SeqAt.EqAt A s its.toArray[j] its2.toArray[j] (eqJ ts us j) := by
 have l1 := h2.length
 have l2 := g2.length
 have m1 := r1.length
 have m2 := r2.length
 have hj1' : j < its.length := by simpa using hj1
 have hj2' : j < its2.length := by simpa using hj2
 have e1 : ts[j]? = some (ts[j]'(by lia)) := List.getElem?_eq_getElem (by lia)
 have e2 : us[j]? = some (us[j]'(by lia)) := List.getElem?_eq_getElem (by lia)
 obtain ⟨v1, a1, b1⟩ := h2.get e1
 obtain ⟨v2, a2, b2⟩ := g2.get e2
 obtain ⟨w1, c1, d1⟩ := r1.get a1
 obtain ⟨w2, c2, d2⟩ := r2.get a2
 have f1 : its.toArray[j] = w1 := by
  have : its[j]? = some (its[j]'hj1') := List.getElem?_eq_getElem hj1'
  rw [c1] at this
  simpa using (Option.some.inj this).symm
 have f2 : its2.toArray[j] = w2 := by
  have : its2[j]? = some (its2[j]'hj2') := List.getElem?_eq_getElem hj2'
  rw [c2] at this
  simpa using (Option.some.inj this).symm
 have e3 : eqJ ts us j = eqT (ts[j]'(by lia)) (us[j]'(by lia)) := by unfold eqJ; rw [e1, e2]
 rw [f1, f2, e3]
 have := a5W e1
 exact ih _ _ v1 v2 w1 w2 (by lia) (a2R px e1) (a2R py e2) b1 b2 d1 d2
open SeqAt in
/-- == (by identity first), ==, != of two values, by their trees -/
theorem b4z (I : Inv X pins σ H s) : ∀ n (A : Around) (x y : T) (v u : V) (a b : Value), depT x ≤ n → A.units + n + 1 < cLine → a0t x = true → a0t y = true → Rep X.K H v x → Rep X.K H u y → RelV v a → RelV u b →
  SeqAt.EqAt A s a b (eqT x y) ∧ SeqAt.RcAt A s a b (eqT x y) ∧ SeqAt.RcNeAt A s a b (!(eqT x y)) := by
 intro n
 induction n with
 | zero =>
   intro A x y v u a b hd hu px py rx ry ra rb
   rcases b0Q x with ⟨ts, rfl⟩ | nx
   ·unfold depT at hd; lia
   ·rcases b0Q y with ⟨us, rfl⟩ | ny
    ·unfold Rep at ry
     obtain ⟨p, ys, rfl, g1, g2⟩ := ry
     obtain ⟨its, r', ht, _⟩ := I.tuple g1
     have ht' : s.heap.IsTuple p its.toArray := ht
     cases rb
     exact b2H ht' (by lia) x us v a px rx ra nx
    ·exact b4y x y v u a b px py rx ry ra rb nx ny
 | succ n ih =>
   intro A x y v u a b hd hu px py rx ry ra rb
   have hu' : A.units < cLine := by lia
   rcases b0Q x with ⟨ts, rfl⟩ | nx
   ·have rx' := rx
    unfold Rep at rx
    obtain ⟨p, xs, rfl, h1, h2⟩ := rx
    cases ra
    obtain ⟨its, r1, ht, _⟩ := I.tuple h1
    have ht' : s.heap.IsTuple p its.toArray := ht
    rcases b0Q y with ⟨us, rfl⟩ | ny
    ·have ry' := ry
     unfold Rep at ry
     obtain ⟨q, ys, rfl, g1, g2⟩ := ry
     cases rb
     obtain ⟨its2, r2, ht2, _⟩ := I.tuple g1
     have ht2' : s.heap.IsTuple q its2.toArray := ht2
     have px' := px
     have py' := py
     unfold a0t at px py
     unfold depT at hd
     have he := b1r (A := A.in1) (s := s) (n := n) px py (by lia) h2 g2 r1 r2 fun x y v u a b hx px py rx ry ra rb => (ih A.in1 x y v u a b hx (by show A.units + 1 + n + 1 < cLine; lia) px py rx ry ra rb).1
     have ee : ((List.range (min its.toArray.size its2.toArray.size)).all (eqJ ts us) && its.toArray.size == its2.toArray.size) = eqT (.tup ts) (.tup us) := by
      have l1 := h2.length
      have l2 := g2.length
      have m1 := r1.length
      have m2 := r2.length
      unfold eqT
      rw [← a3H, List.size_toArray, List.size_toArray, ← m1, ← m2, l1, l2]
     have rc := RcAt.tuples (A := A) (e := eqJ ts us) ht' ht2' hu' he
     have rn := RcNeAt.tuples (A := A) (e := eqJ ts us) ht' ht2' hu' he
     rw [ee] at rc rn
     refine ⟨?_, rc, rn⟩
     by_cases hpq : p = q
     ·subst hpq
      have e : eqT (.tup ts) (.tup us) = true := b7M I (.tup ts) (.tup us) (.ref p) px' py' rx' ry'
      rw [e]; exact .same _
     ·exact .of_refs hpq rc
    ·exact b2I ht' hu' y ts u b py ry rb ny
   ·exact ih A x y v u a b (by rw [c2j nx]; exact Nat.zero_le _) (by lia) px py rx ry ra rb
end
noncomputable abbrev R3 := T → T → MH → VK3 → Prop
noncomputable def dR (K : PySem.W.Frag) (r : R3) : R2 := fun v u H Q2 => ∃ x y M Q, Rep K H v x ∧ Rep K H u y ∧ HR K H M ∧ r x y M Q ∧ EndE K H Q Q2
noncomputable def dU (K : PySem.W.Frag) (r : T → MH → VK3 → Prop) : V → Hp → VK → Prop := fun v H Q2 => ∃ x M Q, Rep K H v x ∧ HR K H M ∧ r x M Q ∧ EndE K H Q Q2
noncomputable def dL (K : PySem.W.Frag) (r : List T → MH → VK3 → Prop) : List V → Hp → VK → Prop := fun vs H Q2 => ∃ xs M Q, Reps K H vs xs ∧ HR K H M ∧ r xs M Q ∧ EndE K H Q Q2
theorem Kp.new {K : PySem.W.Frag} {H : Hp} {p : Addr} {o : HO} (h : H p = none) : Kp K H (upd H p o) := by
 refine ⟨fun a xs q => ?_, fun a ob u q => by rw [a0p (a0k q h)]; exact q⟩
 rcases q with (q | ⟨ob, q⟩) | q
 ·exact .inl (.inl (by rw [a0p (a0k q h)]; exact q))
 ·exact .inl (.inr ⟨ob, by rw [a0p (a0k q h)]; exact q⟩)
 ·exact .inr q
theorem Kp.lst {K : PySem.W.Frag} {H : Hp} {p : Addr} {xs ys : List V} (h : H p = some (.lst xs)) : Kp K H (upd H p (.lst ys)) := by
 have ne : ∀ {a : Addr} {o : HO}, H a = some o → o ≠ .lst xs → a ≠ p := fun {a o} q hn e => by
  subst e
  rw [h] at q; cases q; exact hn rfl
 refine ⟨fun a zs q => ?_, fun a ob u q => by rw [a0p (ne q (by intro z; cases z))]; exact q⟩
 rcases q with (q | ⟨ob, q⟩) | q
 ·exact .inl (.inl (by rw [a0p (ne q (by intro z; cases z))]; exact q))
 ·exact .inl (.inr ⟨ob, by rw [a0p (ne q (by intro z; cases z))]; exact q⟩)
 ·exact .inr q
theorem Kp.dict {K : PySem.W.Frag} {H : Hp} {p : Addr} {o u : HO} (h : H p = some o) (ho : (∃ kvs, o = .dK kvs) ∨ ∃ kvs, o = .dT kvs) : Kp K H (upd H p u) := by
 have ne : ∀ {a : Addr} {u : HO}, H a = some u → ((∃ xs, u = .tup xs) ∨ ∃ b x, u = .frz b x) → a ≠ p := fun {a u} q hn e => by
  subst e
  rw [h] at q; cases q
  rcases ho with ⟨_, rfl⟩ | ⟨_, rfl⟩ <;> rcases hn with ⟨_, z⟩ | ⟨_, _, z⟩ <;> cases z
 refine ⟨fun a zs q => ?_, fun a ob u q => by rw [a0p (ne q (.inr ⟨_, _, rfl⟩))]; exact q⟩
 rcases q with (q | ⟨ob, q⟩) | q
 ·exact .inl (.inl (by rw [a0p (ne q (.inl ⟨_, rfl⟩))]; exact q))
 ·exact .inl (.inr ⟨ob, by rw [a0p (ne q (.inr ⟨_, _, rfl⟩))]; exact q⟩)
 ·exact .inr q
section
variable {K : PySem.W.Frag} {H : Hp} {M : MH}
noncomputable def Wr : HO → Prop
 | .lst _ => True
 | .dK _ => True
 | .dT _ => True
 | .frz _ _ => True
 | _ => False
theorem MOk.kp {H' : Hp} {a : Addr} {o : MO} (h : MOk K H a o) (k : Kp K H H') (ha : ∀ u, Wr u → H a = some u → H' a = some u) : MOk K H' a o := by
 cases o with
 | lst ts => obtain ⟨xs, e, r⟩ := h; exact ⟨xs, ha _ trivial e, Reps.kp k _ _ r⟩
 | dk kvs => obtain ⟨xs, e, r⟩ := h; exact ⟨xs, ha _ trivial e, r.kp k⟩
 | dt kvs => obtain ⟨xs, e, r⟩ := h; exact ⟨xs, ha _ trivial e, r.kp k⟩
 | fz kvs => obtain ⟨ob, xs, e, r⟩ := h; exact ⟨ob, xs, k.frz _ _ _ e, r.kp k⟩
 | fk kvs =>
   obtain ⟨xs, e, r⟩ := h
   rcases e with e | ⟨ob, e⟩
   ·exact ⟨xs, .inl (ha _ trivial e), r.kp k⟩
   ·exact ⟨xs, .inr ⟨ob, k.frz _ _ _ e⟩, r.kp k⟩
theorem MOk.some {a : Addr} {o : MO} (h : MOk K H a o) : ∃ u, H a = Option.some u ∧ Wr u := by
 cases o with
 | lst ts => obtain ⟨xs, e, r⟩ := h; exact ⟨_, e, trivial⟩
 | dk kvs => obtain ⟨xs, e, r⟩ := h; exact ⟨_, e, trivial⟩
 | dt kvs => obtain ⟨xs, e, r⟩ := h; exact ⟨_, e, trivial⟩
 | fz kvs => obtain ⟨ob, xs, e, r⟩ := h; exact ⟨_, e, trivial⟩
 | fk kvs =>
   obtain ⟨xs, e, r⟩ := h
   rcases e with e | ⟨ob, e⟩
   ·exact ⟨_, e, trivial⟩
   ·exact ⟨_, e, trivial⟩
theorem HR.free {p : Addr} (h : HR K H M) (hp : H p = none) : M p = none := by
 cases q : M p with
 | none => rfl
 | some o =>
   obtain ⟨u, e, _⟩ := (h p o q).some
   rw [hp] at e; cases e
theorem HR.keep {p : Addr} {o : HO} (h : HR K H M) (hp : H p = none) : HR K (upd H p o) M := fun a u e =>
 (h a u e).kp (Kp.new hp) fun u _ q => by rw [a0p (a0k q hp)]; exact q
theorem HR.newL {p : Addr} {xs : List V} {ts : List T} (h : HR K H M) (hp : H p = none) (r : Reps K H xs ts) : HR K (upd H p (.lst xs)) (updM M p (.lst ts)) := fun a u e => by
 by_cases ha : a = p
 ·subst ha
  rw [a0c] at e; cases e
  exact ⟨xs, a0A, Reps.kp (Kp.new hp) _ _ r⟩
 ·rw [a1F ha] at e
  exact (h.keep hp) a u e
theorem HR.setL {p : Addr} {xs ys : List V} {us : List T} (h : HR K H M) (hp : H p = some (.lst xs)) (r : Reps K H ys us) : HR K (upd H p (.lst ys)) (updM M p (.lst us)) := fun a u e => by
 by_cases ha : a = p
 ·subst ha
  rw [a0c] at e; cases e
  exact ⟨ys, a0A, Reps.kp (Kp.lst hp) _ _ r⟩
 ·rw [a1F ha] at e
  exact (h a u e).kp (Kp.lst hp) fun u _ q => by rw [a0p ha]; exact q
theorem HR.newK {p : Addr} {xs : List (Key × V)} {kvs : List (Key × T)} (h : HR K H M) (hp : H p = none) (r : KRep K H xs kvs) : HR K (upd H p (.dK xs)) (updM M p (.dk kvs)) := fun a u e => by
 by_cases ha : a = p
 ·subst ha
  rw [a0c] at e; cases e
  exact ⟨xs, a0A, r.kp (Kp.new hp)⟩
 ·rw [a1F ha] at e
  exact (h.keep hp) a u e
theorem HR.setK {p : Addr} {o : HO} {xs : List (Key × V)} {kvs : List (Key × T)} (h : HR K H M) (hp : H p = some o) (ho : (∃ kvs, o = .dK kvs) ∨ ∃ kvs, o = .dT kvs) (r : KRep K H xs kvs) : HR K (upd H p (.dK xs)) (updM M p (.dk kvs)) := fun a u e => by
 by_cases ha : a = p
 ·subst ha
  rw [a0c] at e; cases e
  exact ⟨xs, a0A, r.kp (Kp.dict hp ho)⟩
 ·rw [a1F ha] at e
  exact (h a u e).kp (Kp.dict hp ho) fun u _ q => by rw [a0p ha]; exact q
end
noncomputable def OpR3 (X : Cx) (f : Value → Value → Sem Value) (r : R3) : Prop := OpR X f (dR X.K r)
noncomputable def UnR3 (X : Cx) (f : Value → Sem Value) (r : T → MH → VK3 → Prop) : Prop := UnR X f (dU X.K r)
noncomputable def a3k (X : Cx) (f : Value) (r : List T → MH → VK3 → Prop) : Prop := a6z X f (dL X.K r)
noncomputable def IxR3 (X : Cx) (r : R3) : Prop := IxR X (dR X.K r)
noncomputable def tOp3 (r : R3) (ta tb : TE3) : TE3 := fun ρ M Q => ta ρ M fun x M1 => tb ρ M1 fun y M2 => r x y M2 Q
noncomputable def tUn3 (r : T → MH → VK3 → Prop) (ta : TE3) : TE3 := fun ρ M Q => ta ρ M fun x M1 => r x M1 Q
noncomputable def b5l (i : Nat) : TE3 := fun ρ M Q => match ρ[i]? with
 | some (some t) => Q t M
 | _ => False
noncomputable def tK (t : T) : TE3 := fun _ M Q => Q t M
section
variable {X : Cx} {a b c e : Expr} {es : List Expr} {ta tb tc te : TE3} {pos : Pos}
theorem dOp {ρ : En} {M : MH} {Q : VK3} {r : R3} (h : tOp3 r ta tb ρ M Q) {σ : St} {H : Hp} {Q2 : VK} (b : bE X.K ρ M Q σ H Q2) : tOp (dR X.K r) (dE X.K ρ ta) (dE X.K ρ tb) σ H Q2 := by
 obtain ⟨hr, hh, en⟩ := b
 refine ⟨M, _, h, hr, hh, fun t v M1 H1 k1 h1 r1 q1 => ⟨M1, _, q1, hr.kp k1, h1, fun t2 v2 M2 H2 k2 h2 r2 q2 => ⟨t, t2, M2, Q, Rep.kp k2 _ _ r1, r2, h2, q2, en.kp (k1.trans k2)⟩⟩⟩
theorem a0E {op : Operator} {r : R3} (ho : OpR3 X (binaryOp op) r) (ha : HE X a ta) (hb : HE X b tb) : HE X (.BinOp a op b pos) (tOp3 r ta tb) := fun ρ M Q h =>
 (c1L ho (ha.d (ρ := ρ)) (hb.d (ρ := ρ))).imp fun σ H Q2 b => dOp h b
theorem h_un {op : UnaryOp} {r : T → MH → VK3 → Prop} (ho : UnR3 X (unaryOp op) r) (ha : HE X a ta) : HE X (.UnaryOp op a pos) (tUn3 r ta) := fun ρ M Q h =>
 (c1J ho (ha.d (ρ := ρ))).imp fun σ H Q2 ⟨hr, hh, en⟩ => ⟨M, _, h, hr, hh, fun t v M1 H1 k1 h1 r1 q1 => ⟨t, M1, Q, r1, h1, q1, en.kp k1⟩⟩
theorem c1Z {i : Nat} {x : Str} (hN : X.N[i]? = some x) (hv : Vis X.env.scope x) (hd : (x == ("__debug__" : Str)) = false := by decide) (hcd : (x == ("__classdict__" : Str)) = false := by decide) : HE X (.Name x pos) (b5l i) := fun ρ M Q h =>
 (c0r hN hv hd hcd).imp fun σ H Q2 ⟨hr, hh, en⟩ => by
  unfold b5l at h
  split at h
  ·rename_i t e
   obtain ⟨v, e1, r⟩ := hr.2 i t e
   exact ⟨v, e1, en t v M H Kp.refl hh r h⟩
  ·exact h.elim
theorem hv (i : Nat) {x : Str} {pos : Pos} (hN : X.N[i]? = some x := by rfl) (hv : Vis X.env.scope x := by first | exact Or.inl rfl | exact Or.inr (Or.inl rfl) | exact Or.inr (Or.inr rfl)) (hd : (x == ("__debug__" : Str)) = false := by decide)
  (hcd : (x == ("__classdict__" : Str)) = false := by decide) : HE X (.Name x pos) (b5l i) := c1Z hN hv hd hcd
theorem a0i {K : PySem.W.Frag} {H : Hp} {i : Int} : Rep K H (.int i) (.int i) := by unfold Rep; rfl
theorem a2Q {K : PySem.W.Frag} {H : Hp} {i : Bool} : Rep K H (.bl i) (.bl i) := by unfold Rep; rfl
theorem a7q {K : PySem.W.Frag} {H : Hp} {i : Str} : Rep K H (.str i) (.str i) := by unfold Rep; rfl
theorem b3o {K : PySem.W.Frag} {H : Hp} : Rep K H .non .non := by unfold Rep; rfl
theorem a2y {K : PySem.W.Frag} {H : Hp} {a : Addr} : Rep K H (.ref a) (.adr a) := by unfold Rep; rfl
theorem a1U {K : PySem.W.Frag} {H : Hp} {a : Addr} {xs : List V} {ts : List T} (h : SqT K H a xs) (r : Reps K H xs ts) : Rep K H (.ref a) (.tup ts) := by unfold Rep; exact ⟨a, xs, rfl, h, r⟩
theorem b0u {v : V} {t : T} (h : PE X e (tC v)) (r : ∀ K H, Rep K H v t) : HE X e (tK t) := fun ρ M Q q => h.imp fun σ H Q2 ⟨hr, hh, en⟩ => en t v M H Kp.refl hh (r _ _) q
theorem a0j {i j pos} : HE X (.Constant (.int i) j pos) (tK (.int i)) := b0u c0v fun _ _ => a0i
theorem h_bl {b j pos} : HE X (.Constant (.bool b) j pos) (tK (.bl b)) := b0u c1O fun _ _ => a2Q
theorem b4g {x : Str} {i : Int} {tk : Tok} {pos : Pos} (hm : X.mg x = some (.int i tk)) (hg : Gl X x := by rfl) (hd : (x == ("__debug__" : Str)) = false := by decide) : HE X (.Name x pos) (tK (.int i)) := b0u (v := .int i) (b3C hg hm ⟨tk, rfl⟩ hd) fun _ _ => a0i
theorem a0n {K : PySem.W.Frag} {H : Hp} {v : V} {i : Int} (r : Rep K H v (.int i)) : v = .int i := by unfold Rep at r; exact r
theorem a3c {K : PySem.W.Frag} {H : Hp} {v : V} {i : Str} (r : Rep K H v (.str i)) : v = .str i := by unfold Rep at r; exact r
theorem a5e {K : PySem.W.Frag} {H : Hp} {v : V} {i : Bool} (r : Rep K H v (.bl i)) : v = .bl i := by unfold Rep at r; exact r
theorem b3Z {K : PySem.W.Frag} {H : Hp} {v : V} (r : Rep K H v .non) : v = .non := by unfold Rep at r; exact r
theorem a0o {K : PySem.W.Frag} {H : Hp} {v : V} {a : Addr} (r : Rep K H v (.adr a)) : v = .ref a := by unfold Rep at r; exact r
theorem a1l {K : PySem.W.Frag} {H : Hp} {v : V} {ts : List T} (r : Rep K H v (.tup ts)) : ∃ a xs, v = .ref a ∧ SqT K H a xs ∧ Reps K H xs ts := by unfold Rep at r; exact r
noncomputable def rInt (C : Int → Int → Prop) (g : Int → Int → Int) : R3 := fun x y M Q => match x, y with
 | .int i, .int j => C i j ∧ Q (.int (g i j)) M
 | _, _ => False
theorem b0g {f : Value → Value → Sem Value} {C : Int → Int → Prop} {g : Int → Int → Int} (h : OpR X f (rI C fun i j => .int (g i j))) : OpR3 X f (rInt C g) := by
 intro pins s σ H x y v u Q2 I rx ry q
 obtain ⟨a, b, M, Q, r1, r2, hh, q, en⟩ := q
 unfold rInt at q
 split at q
 ·obtain rfl := a0n r1
  obtain rfl := a0n r2
  exact h pins s σ H _ _ v u Q2 I rx ry ⟨_, _, rfl, rfl, q.1, en _ _ M H Kp.refl hh a0i q.2⟩
 ·exact q.elim
noncomputable def b7P : R3 := fun x y M Q => match x, y with
 | .int i, .int j => Q (.int (i - j)) M
 | _, _ => False
theorem a3q : OpR3 X (binaryOp .Sub) b7P := by
 intro pins s σ H x y v u Q2 I rx ry q
 obtain ⟨a, b, M, Q, r1, r2, hh, q, en⟩ := q
 unfold b7P at q
 split at q
 ·obtain rfl := a0n r1
  obtain rfl := a0n r2
  exact c0w pins s σ H _ _ v u Q2 I rx ry ⟨_, _, rfl, rfl, en _ _ M H Kp.refl hh a0i q⟩
 ·exact q.elim
noncomputable def b9u (i j : Int) : Prop := 0 < j ∧ j.natAbs.log2 < 9000
theorem b5M : OpR X (binaryOp .FloorDiv) (rI b9u fun i j => .int (i / j)) := opI fun i j _ _ _ _ _ hc q => by
 have e : i.fdiv j = i / j := Int.fdiv_eq_ediv_of_nonneg i (Int.le_of_lt hc.1)
 exact floordiv_int (Int.ne_of_gt hc.1) (by rw [e]; exact q) (.inl (PyProof.noPylong_of_log2 hc.2))
noncomputable def c0i : R3 := rInt b9u fun i j => i / j
noncomputable def c0h : R3 := rInt (fun _ j => 0 < j) fun i j => i % j
noncomputable def c0g : R3 := rInt CPow fun i j => i ^ j.toNat
theorem b3I : OpR3 X (binaryOp .FloorDiv) c0i := b0g b5M
theorem a3r : OpR3 X (binaryOp .Mod) c0h := b0g c0A
theorem b3G : OpR3 X (binaryOp .Pow) c0g := b0g c0y
noncomputable def b7Q : T → MH → VK3 → Prop := fun x M Q => match x with
 | .int i => Q (.int (-i)) M
 | _ => False
theorem a4z : UnR3 X (unaryOp .USub) b7Q := by
 intro pins s σ H x v Q2 I rx q
 obtain ⟨a, M, Q, r1, hh, q, en⟩ := q
 unfold b7Q at q
 split at q
 ·obtain rfl := a0n r1
  exact b9x pins s σ H _ v Q2 I rx ⟨_, rfl, en _ _ M H Kp.refl hh a0i q⟩
 ·exact q.elim
theorem b5N : OpR X (binaryOp .Add) (fun x y H Q => ∃ a b ys, x = .ref a ∧ y = .ref b ∧ SqT X.K H a [] ∧ SqT X.K H b ys ∧ Q (.ref b) H) := by
 intro pins s σ H x y v u Q I rx ry h
 obtain ⟨a, b, ys, rfl, rfl, hx, hy, q⟩ := h
 cases rx
 cases ry
 obtain ⟨its, r, ht, hz⟩ := I.tuple hx
 obtain ⟨its2, r2, ht2, hz2⟩ := I.tuple hy
 have e : its = [] := r.nil_iff.mpr rfl
 subst e
 obtain ⟨⟨cls, dd, data, sl⟩, ho, hc, n, hd⟩ := id ht
 obtain ⟨⟨cls2, dd2, data2, sl2⟩, ho2, hc2, n2, hd2⟩ := id ht2
 simp only at hc hd hc2 hd2
 subst hc hd hc2 hd2
 exact concat_meets ⟨_, ho, rfl⟩ ⟨_, ho2, rfl⟩ noFill_tuple_add seq_tuple_add PySem.F.slot_tuple_add PySem.F.entry_tuple_add (PySem.F.args_tuple_add_2 _ _)
   (tuple_addW0 a b _ its2.toArray n n2 dd dd2 sl sl2 (by simp)) ⟨ho, ho2, ⟨.ref b, H, I, rfl, q⟩⟩
noncomputable def b7Y : R3 := fun x y M Q => match x, y with
 | .int i, .int j => Q (.int (i + j)) M
 | .str a, .str b => a.length + b.length ≤ sizeLine ∧ Q (.str (a ++ b)) M
 | .tup a, .tup b => a.length + b.length ≤ sizeLine ∧ Q (.tup (a ++ b)) M
 | .adr p, .adr q => match M p, M q with
   | some (.lst a), some (.lst b) => a.length + b.length ≤ sizeLine ∧ ∀ r, M r = none → Q (.adr r) (updM M r (.lst (a ++ b)))
   | _, _ => False
 | _, _ => False
theorem a0I : OpR3 X (binaryOp .Add) b7Y := by
 intro pins s σ H x y v u Q2 I rx ry q
 obtain ⟨a, b, M, Q, r1, r2, hh, q, en⟩ := q
 unfold b7Y at q
 split at q
 ·obtain rfl := a0n r1
  obtain rfl := a0n r2
  exact c0C pins s σ H _ _ v u Q2 I rx ry ⟨_, _, rfl, rfl, en _ _ M H Kp.refl hh a0i q⟩
 ·obtain rfl := a3c r1
  obtain rfl := a3c r2
  exact b2s pins s σ H _ _ v u Q2 I rx ry ⟨_, _, rfl, rfl, q.1, en _ _ M H Kp.refl hh a7q q.2⟩
 ·rename_i ts us
  obtain ⟨p, xs, rfl, h1, h2⟩ := a1l r1
  obtain ⟨p', ys, rfl, g1, g2⟩ := a1l r2
  have l1 := h2.length
  have l2 := g2.length
  by_cases hx : xs = []
  ·subst hx
   have ht : ts = [] := List.eq_nil_of_length_eq_zero (by rw [← l1]; rfl)
   subst ht
   exact b5N pins s σ H _ _ v u Q2 I rx ry ⟨_, _, ys, rfl, rfl, h1, g1, en _ _ M H Kp.refl hh (a1U g1 g2) q.2⟩
  ·refine b8r pins s σ H _ _ v u Q2 I rx ry ⟨_, _, xs, ys, rfl, rfl, h1, g1, hx, by rw [l1, l2]; exact q.1, fun hy => ?_, fun hy r hr => ?_⟩
   ·subst hy
    have ht : us = [] := List.eq_nil_of_length_eq_zero (by rw [← l2]; rfl)
    subst ht
    have q2 := q.2
    rw [List.append_nil] at q2
    exact en _ _ M H Kp.refl hh (a1U h1 h2) q2
   ·refine en _ _ M _ (Kp.new hr) (hh.keep hr) (a1U (SqT.of a0A) ?_) q.2
    exact Reps.kp (Kp.new hr) _ _ (h2.append g2)
 ·rename_i p p'
  obtain rfl := a0o r1
  obtain rfl := a0o r2
  split at q
  ·rename_i ts us e1 e2
   obtain ⟨xs, h1, h2⟩ := hh _ _ e1
   obtain ⟨ys, g1, g2⟩ := hh _ _ e2
   refine c0B pins s σ H _ _ v u Q2 I rx ry ⟨_, _, xs, ys, rfl, rfl, h1, g1, by rw [h2.length, g2.length]; exact q.1, fun r hr => ?_⟩
   exact en _ _ _ _ (Kp.new hr) (hh.newL hr (h2.append g2)) a2y (q.2 r (hh.free hr))
  ·exact q.elim
 ·exact q.elim
end
theorem a5l : fillsNumberSlot (.type "tuple") "mul" = pure false :=
 PySem.fillsNumberSlot_seq (id := "tuple.__mul__") (r := some (.builtin "tuple.__rmul__")) F.slot_tuple_mul.lookup (by decide +kernel) F.slot_tuple_rmul.lookup (by decide +kernel)
theorem a8E : seqRepeat? (.type "tuple") = pure (some (.builtin "tuple.__mul__")) := by
 unfold seqRepeat?
 rw [PySem.seqSlot_of (T := "tuple") (name := "__mul__") (id := "tuple.__mul__") F.slot_tuple_mul.lookup (by decide +kernel), PySem.seqSlot_of (T := "tuple") (name := "__rmul__") (id := "tuple.__rmul__") F.slot_tuple_rmul.lookup (by decide +kernel)]
 rfl
section
variable (l : Addr) (items : Array Value) (n : Nat) (x : Int) (u : Tok) (dd : Option Addr) (sl : Array (Option Value))
theorem a6u : Meets (Builtin.«int.__rmul__» ⟨[.int x u, .ref l], []⟩) (fun _ R s => s.heap.get? l = some { cls := .type "tuple", dict := dd, data := .seq items n, slots := sl } ∧ R (.ok (.ret Value.notImplemented)) s) :=
 .of_wp fun prog w A R s h => by obtain ⟨hp, g, d, tk, os⟩ := s; obtain ⟨hl, h⟩ := h; wp_walk; exact ⟨_, rfl, h⟩
theorem a9P (h0 : -(2 ^ 63) ≤ x) (h1 : x < 2 ^ 63) (hc : (items.isEmpty || x == 1) = true) :
  Meets (Builtin.«tuple.__mul__» ⟨[.ref l, .int x u], []⟩) (fun _ R s => s.heap.get? l = some { cls := .type "tuple", dict := dd, data := .seq items n, slots := sl } ∧ R (.ok (.ret (Value.ref l))) s) :=
 .of_wp fun prog w A R s h => by
  obtain ⟨hp, g, d, tk, os⟩ := s; obtain ⟨hl, h⟩ := h
  have hb : ¬ (decide (x < -2 ^ 63) || decide (x ≥ 2 ^ 63)) = true := by simp; lia
  wp_walk
  rw [if_neg hb]
  wp_walk
  first | exact ⟨_, rfl, h⟩ | (rw [if_pos hc]; wp_walk; exact ⟨_, rfl, h⟩)
theorem a9O (h0 : -(2 ^ 63) ≤ x) (h1 : x < 2 ^ 63) (hc : ¬ (items.isEmpty || x == 1) = true) (hn : (decide (x ≤ 0) || items.isEmpty) = true) :
  Meets (Builtin.«tuple.__mul__» ⟨[.ref l, .int x u], []⟩) (fun _ R s => s.heap.get? l = some { cls := .type "tuple", dict := dd, data := .seq items n, slots := sl } ∧ R (.ok (.ret (Value.ref s.heap.objs.size))) { s with heap := s.heap.push { cls := .type "tuple", data := .seq #[] }, toks := s.toks }) :=
 .of_wp fun prog w A R s h => by
  obtain ⟨hp, g, d, tk, os⟩ := s; obtain ⟨hl, h⟩ := h
  have hb : ¬ (decide (x < -2 ^ 63) || decide (x ≥ 2 ^ 63)) = true := by simp; lia
  wp_walk
  rw [if_neg hb]
  wp_walk
  first | exact ⟨_, rfl, h⟩ | (rw [if_neg hc, if_pos hn]; wp_walk; exact ⟨_, rfl, h⟩)
theorem a9N (h0 : -(2 ^ 63) ≤ x) (h1 : x < 2 ^ 63) (hc : ¬ (items.isEmpty || x == 1) = true) (hn : ¬ (decide (x ≤ 0) || items.isEmpty) = true) (hm : ¬ items.size * x > (2 ^ 63 - 1) / 8) (hz : ¬ Builtin.Tuple.tupleTooMany (items.size * x) = true) (hf : sizeOk (.seq (List.foldl (fun x1 x2 => x1 ++ x2) #[] (List.replicate x.toNat items)))) :
  Meets (Builtin.«tuple.__mul__» ⟨[.ref l, .int x u], []⟩) (fun _ R s => s.heap.get? l = some { cls := .type "tuple", dict := dd, data := .seq items n, slots := sl } ∧ R (.ok (.ret (Value.ref s.heap.objs.size))) { s with heap := s.heap.push { cls := .type "tuple", data := .seq (List.foldl (fun x1 x2 => x1 ++ x2) #[] (List.replicate x.toNat items)) }, toks := s.toks }) :=
 .of_wp fun prog w A R s h => by
  obtain ⟨hp, g, d, tk, os⟩ := s; obtain ⟨hl, h⟩ := h
  have hb : ¬ (decide (x < -2 ^ 63) || decide (x ≥ 2 ^ 63)) = true := by simp; lia
  wp_walk
  rw [if_neg hb]
  wp_walk
  rw [if_neg hm]
  wp_walk
  first | exact ⟨_, rfl, h⟩ | (rw [if_neg (Nat.not_lt.mpr hf)]; wp_walk; exact ⟨_, rfl, h⟩)
end
section
variable {X : Cx}
noncomputable def c1F (K : PySem.W.Frag) : R2 := fun x y H Q => ∃ a k xs, x = .ref a ∧ y = .int k ∧ SqT K H a xs ∧ -(2 ^ 63) ≤ k ∧ k < 2 ^ 63 ∧ xs.length * k.toNat ≤ sizeLine ∧
 ∀ p H', SqT K H' p (List.replicate k.toNat xs).flatten → (H' = H ∨ H p = none ∧ H' = upd H p (.tup (List.replicate k.toNat xs).flatten)) → Q (.ref p) H'
theorem a6T (its : List Value) (m : Nat) : List.foldl (fun x1 x2 => x1 ++ x2) #[] (List.replicate m its.toArray) = (List.replicate m its).flatten.toArray := by
 have := a5U its m []
 rw [List.nil_append] at this
 exact this
theorem b8q : OpR X (binaryOp .Mult) (c1F X.K) := by
 intro pins s σ H x y v u Q I rx ry h
 obtain ⟨a, k, xs, rfl, rfl, hx, h1, h2, hz, q⟩ := h
 cases rx
 obtain ⟨t, rfl⟩ := ry
 obtain ⟨its, r, p, hl⟩ := I.tuple hx
 have hlen := r.length
 obtain ⟨⟨cls, dd, data, sl⟩, ho, hc, n, hd⟩ := id p
 simp only at hc hd
 subst hc hd
 refine wpAny_binaryOp_repeat_ref (T := "tuple") (U := "int") (by decide) ⟨_, ho, rfl⟩ (fun s' => typeIs_int s' k t) a5l F.fills_int_mul F.slot_int_rmul a8E F.slot_int_index.lookup
  (call_meets F.slot_int_rmul (typeIs_int s k t) F.entry_int_rmul (F.args_int_rmul_2 _ _) (a6u a its.toArray n k t dd sl) ⟨ho, rfl, ⟨_, ho, rfl⟩, ?_⟩)
 by_cases hc : (its.toArray.isEmpty || k == 1) = true
 ·refine call_meets F.slot_tuple_mul ⟨_, ho, rfl⟩ F.entry_tuple_mul (F.args_tuple_mul_2 _ _) (a9P a its.toArray n k t dd sl h1 h2 hc) ⟨ho, ?_⟩
  have e : (List.replicate k.toNat xs).flatten = xs := by
   simp only [Bool.or_eq_true, beq_iff_eq] at hc
   rcases hc with hc | hc
   ·have : its = [] := by simpa using hc
    subst this
    cases r
    simp
   ·subst hc
    simp
  exact ⟨.ref a, H, I, rfl, q a H (by rw [e]; exact hx) (.inl rfl)⟩
 ·by_cases hn : (decide (k ≤ 0) || its.toArray.isEmpty) = true
  ·refine call_meets F.slot_tuple_mul ⟨_, ho, rfl⟩ F.entry_tuple_mul (F.args_tuple_mul_2 _ _) (a9O a its.toArray n k t dd sl h1 h2 hc hn) ⟨ho, ?_⟩
   have hk : k.toNat = 0 := by
    simp only [Bool.or_eq_true, decide_eq_true_eq] at hn hc
    rcases hn with hn | hn
    ·lia
    ·exact absurd (.inl hn) hc
   have e : (List.replicate k.toNat xs).flatten = [] := by rw [hk]; rfl
   refine ⟨.ref s.heap.objs.size, _, I.laid (t' := s.toks) (o := .tup []) (fun b ob q => Heap.get?_push_of_some _ q) (Nat.le_refl _) ?_, rfl, q _ _ ?_ (.inr ⟨I.hok.fresh (Nat.le_refl _), by rw [e]⟩)⟩
   ·exact ⟨Nat.zero_le _, [], .nil, a2B.new _ _⟩
   ·rw [e]; exact SqT.of a0A
  ·have hm : (its.toArray.size : Int) * k ≤ sizeLine := by
    have : its.toArray.size = xs.length := by rw [hlen]; simp
    rw [this]
    have hk : (0 : Int) ≤ k := by
     simp only [Bool.or_eq_true, decide_eq_true_eq] at hn
     lia
    have e2 : k = ((k.toNat : Nat) : Int) := by lia
    rw [e2, ← Int.natCast_mul]
    exact_mod_cast hz
   have hz2 : ((List.replicate k.toNat its).flatten).length ≤ sizeLine := by rw [b0o, Nat.mul_comm, ← hlen]; exact hz
   refine call_meets F.slot_tuple_mul ⟨_, ho, rfl⟩ F.entry_tuple_mul (F.args_tuple_mul_2 _ _) (a9N a its.toArray n k t dd sl h1 h2 hc hn ?_ ?_ ?_) ⟨ho, ?_⟩
   ·have : (sizeLine : Int) ≤ (2 ^ 63 - 1) / 8 := by decide
    lia
   ·unfold Builtin.Tuple.tupleTooMany
    simp only [decide_eq_true_eq]
    lia
   ·rw [a6T]
    show (List.replicate k.toNat its).flatten.toArray.size ≤ sizeLine
    rw [List.size_toArray]
    exact hz2
   ·rw [a6T]
    refine ⟨.ref s.heap.objs.size, _, I.laid (t' := s.toks) (o := .tup (List.replicate k.toNat xs).flatten) (fun b ob q => Heap.get?_push_of_some _ q) (Nat.le_refl _) ?_, rfl, q _ _ (SqT.of a0A) (.inr ⟨I.hok.fresh (Nat.le_refl _), rfl⟩)⟩
    exact ⟨by rw [b0o, Nat.mul_comm]; exact hz, _, r.rep k.toNat, a2B.new _ _⟩
end
theorem Reps.atI {K : PySem.W.Frag} {H : Hp} {vs : List V} {ts : List T} {i : Int} {t : T} (h : Reps K H vs ts) (e : atI ts i = some t) : ∃ v, L2.atI vs i = some v ∧ Rep K H v t := by
 unfold L2.atI at e ⊢
 rw [h.length]
 cases q : ixN ts.length i with
 | none => rw [q] at e; cases e
 | some j => rw [q] at e; exact h.get e
section
variable {X : Cx} {a b c e : Expr} {es : List Expr} {ta tb tc te : TE3} {pos : Pos}
noncomputable def rIx3 : R3 := fun x y M Q => match x, y with
 | .tup ts, .int i => (match atI ts i with | some t => Q t M | none => False)
 | .rd ts, .int i => (match atI ts i with | some t => Q t M | none => False)
 | .adr p, .int i => (match M p with | some (.lst ts) => (match atI ts i with | some t => Q t M | none => False) | _ => False)
 | .str z, .int i => z.length ≤ sizeLine ∧ (match atI z.cps.toList i with | some c => Q (.str ⟨#[c]⟩) M | none => False)
 | _, _ => False
theorem b1u {K : PySem.W.Frag} {H : Hp} {v : V} {ts : List T} (r : Rep K H v (.rd ts)) : ∃ a xs, v = .ref a ∧ FzL K H a xs ∧ Reps K H xs ts := by unfold Rep at r; exact r
theorem ix3 : IxR3 X rIx3 := by
 intro value slice pins s σ H x y v u Q2 I rx ry q hs
 obtain ⟨a, b, M, Q, r1, r2, hh, q, en⟩ := q
 unfold rIx3 at q
 split at q
 ·obtain rfl := a0n r2
  obtain ⟨p, xs, rfl, h1, h2⟩ := a1l r1
  split at q
  ·rename_i t e
   obtain ⟨w, ew, rw'⟩ := h2.atI e
   exact c0K value slice pins s σ H _ _ v u Q2 I rx ry ⟨_, _, _, w, rfl, rfl, h1, ew, en _ _ M H Kp.refl hh rw' q⟩ hs
  ·exact q.elim
 ·obtain rfl := a0n r2
  obtain ⟨p, xs, rfl, h1, h2⟩ := b1u r1
  split at q
  ·rename_i t e
   obtain ⟨w, ew, rw'⟩ := h2.atI e
   exact b3U value slice pins s σ H _ _ v u Q2 I rx ry ⟨_, _, _, w, rfl, rfl, h1.sq, ew, en _ _ M H Kp.refl hh rw' q⟩ hs
  ·exact q.elim
 ·obtain rfl := a0n r2
  obtain rfl := a0o r1
  split at q
  ·rename_i ts e0
   obtain ⟨xs, h1, h2⟩ := hh _ _ e0
   split at q
   ·rename_i t e
    obtain ⟨w, ew, rw'⟩ := h2.atI e
    exact b3U value slice pins s σ H _ _ v u Q2 I rx ry ⟨_, _, _, w, rfl, rfl, SqL.of h1, ew, en _ _ M H Kp.refl hh rw' q⟩ hs
   ·exact q.elim
  ·exact q.elim
 ·obtain rfl := a0n r2
  obtain rfl := a3c r1
  obtain ⟨hz, q⟩ := q
  split at q
  ·rename_i c e
   exact c0L value slice pins s σ H _ _ v u Q2 I rx ry ⟨_, _, c, rfl, rfl, hz, e, en _ _ M H Kp.refl hh a7q q⟩ hs
  ·exact q.elim
 ·exact q.elim
theorem h_ix (ha : HE X a ta) (hb : HE X b tb) (hs : b5f b := by intro _ _; rfl) : HE X (.Subscript a b pos) (tOp3 rIx3 ta tb) := fun ρ M Q h =>
 (c1M ix3 (ha.d (ρ := ρ)) (hb.d (ρ := ρ)) hs).imp fun σ H Q2 b => dOp h b
noncomputable def b7S : R3 := fun x y M Q => match x, y with
 | .int i, .int j => CMul i j ∧ Q (.int (i * j)) M
 | .adr p, .int k => (match M p with
   | some (.lst ts) => -(2 ^ 63) ≤ k ∧ k < 2 ^ 63 ∧ ts.length * k.toNat ≤ sizeLine ∧ ∀ r, M r = none → Q (.adr r) (updM M r (.lst (List.replicate k.toNat ts).flatten))
   | _ => False)
 | .tup ts, .int k => -(2 ^ 63) ≤ k ∧ k < 2 ^ 63 ∧ ts.length * k.toNat ≤ sizeLine ∧ Q (.tup (List.replicate k.toNat ts).flatten) M
 | _, _ => False
theorem Reps.rep {K : PySem.W.Frag} {H : Hp} {vs : List V} {ts : List T} (h : Reps K H vs ts) : ∀ k : Nat, Reps K H (List.replicate k vs).flatten (List.replicate k ts).flatten
 | 0 => .nil
 | k + 1 => by
   rw [List.replicate_succ, List.replicate_succ, List.flatten_cons, List.flatten_cons]
   exact Reps.append h (Reps.rep h k)
theorem a3T : OpR3 X (binaryOp .Mult) b7S := by
 intro pins s σ H x y v u Q2 I rx ry q
 obtain ⟨a, b, M, Q, r1, r2, hh, q, en⟩ := q
 unfold b7S at q
 split at q
 ·obtain rfl := a0n r1
  obtain rfl := a0n r2
  exact c0z pins s σ H _ _ v u Q2 I rx ry ⟨_, _, rfl, rfl, q.1, en _ _ M H Kp.refl hh a0i q.2⟩
 ·obtain rfl := a0o r1
  obtain rfl := a0n r2
  split at q
  ·rename_i ts e0
   obtain ⟨xs, h1, h2⟩ := hh _ _ e0
   obtain ⟨q1, q2, q3, q4⟩ := q
   refine c0x pins s σ H _ _ v u Q2 I rx ry ⟨_, _, xs, rfl, rfl, h1, q1, q2, by rw [h2.length]; exact q3, fun r hr => ?_⟩
   exact en _ _ _ _ (Kp.new hr) (hh.newL hr (h2.rep _)) a2y (q4 r (hh.free hr))
  ·exact q.elim
 ·obtain ⟨l, xs, rfl, g1, g2⟩ := a1l r1
  obtain rfl := a0n r2
  obtain ⟨q1, q2, q3, q4⟩ := q
  refine b8q pins s σ H _ _ v u Q2 I rx ry ⟨_, _, xs, rfl, rfl, g1, q1, q2, by rw [g2.length]; exact q3, fun r H' h' c => ?_⟩
  rcases c with rfl | ⟨c1, rfl⟩
  ·exact en _ _ _ _ Kp.refl hh (a1U h' (g2.rep _)) q4
  ·exact en _ _ _ _ (Kp.new c1) (hh.keep c1) (a1U h' (Reps.kp (Kp.new c1) _ _ (g2.rep _))) q4
 ·exact q.elim
noncomputable def b0d (g : Int → Int → Bool) : R3 := fun x y M Q => match x, y with
 | .int i, .int j => Q (.bl (g i j)) M
 | _, _ => False
theorem a7A {f : Value → Value → Sem Value} {g : Int → Int → Bool} (h : OpR X f (rI0 fun i j => .bl (g i j))) : OpR3 X f (b0d g) := by
 intro pins s σ H x y v u Q2 I rx ry q
 obtain ⟨a, b, M, Q, r1, r2, hh, q, en⟩ := q
 unfold b0d at q
 split at q
 ·obtain rfl := a0n r1
  obtain rfl := a0n r2
  exact h pins s σ H _ _ v u Q2 I rx ry ⟨_, _, rfl, rfl, en _ _ M H Kp.refl hh a2Q q⟩
 ·exact q.elim
noncomputable def rLt3 : R3 := b0d fun i j => decide (i < j)
noncomputable def rLe3 : R3 := b0d fun i j => decide (i ≤ j)
noncomputable def rGt3 : R3 := b0d fun i j => decide (j < i)
noncomputable def rGe3 : R3 := b0d fun i j => decide (j ≤ i)
theorem a8L : OpR3 X (compareOp .Lt) rLt3 := a7A c1Q
theorem b3H : OpR3 X (compareOp .LtE) rLe3 := a7A c1R
theorem b1i : OpR3 X (compareOp .Gt) rGt3 := a7A c1S
theorem c0D : OpR3 X (compareOp .GtE) rGe3 := a7A c1T
noncomputable def rEqv (g : Bool → Bool) : R3 := fun x y M Q => match x, y with
 | .adr p, .adr q => (match M p, M q with
   | some (.lst a), some (.lst b) => a1V a = true ∧ a1V b = true ∧ a4t a ≤ 30 ∧ Q (.bl (g (eqTs a b))) M
   | _, _ => False)
 | x, y => a0t x = true ∧ a0t y = true ∧ depT x ≤ 30 ∧ Q (.bl (g (eqT x y))) M
noncomputable def rEq3 : R3 := rEqv id
noncomputable def rNe3 : R3 := rEqv not
theorem a8T {pins : List (Addr × Obj)} {σ : St} {H : Hp} {s : Shared} (I : Inv X pins σ H s) (hu : X.A.units + 64 < cLine) {p p' : Addr} {xs ys : List V} {ts us : List T} (h1 : H p = some (.lst xs)) (h2 : Reps X.K H xs ts) (g1 : H p' = some (.lst ys)) (g2 : Reps X.K H ys us)
  (px : a1V ts = true) (py : a1V us = true) (hd : a4t ts ≤ 30) :
  SeqAt.RcAt X.A s (.ref p) (.ref p') (eqTs ts us) ∧ SeqAt.RcNeAt X.A s (.ref p) (.ref p') (!(eqTs ts us)) := by
 obtain ⟨its, r1, pl, _⟩ := I.list (SqL.of h1)
 obtain ⟨its2, r2, pl2, _⟩ := I.list (SqL.of g1)
 have l1 := h2.length
 have l2 := g2.length
 have m1 := r1.length
 have m2 := r2.length
 have hu' : X.A.units < cLine := by lia
 by_cases hl : its.length = its2.length
 ·have he := b1r (X := X) (A := X.A.in1) (s := s) (n := 30) px py hd h2 g2 r1 r2 fun x y v u a b hx px py rx ry ra rb => (b4z I 30 X.A.in1 x y v u a b hx (by show X.A.units + 1 + 30 + 1 < cLine; lia) px py rx ry ra rb).1
  have hsz : its.toArray.size = its2.toArray.size := by simpa using hl
  have rc := SeqAt.RcAt.lists (A := X.A) pl.isList pl2.isList hsz hu' he
  have rn := SeqAt.RcNeAt.lists (A := X.A) pl.isList pl2.isList hsz hu' he
  have ee : (List.range its.toArray.size).all (eqJ ts us) = eqTs ts us := by
   rw [← a3H, List.size_toArray, ← l1, ← l2, m1, m2, ← hl]
   simp
  rw [ee] at rc rn
  exact ⟨rc, rn⟩
 ·have hne : eqTs ts us = false := by
   cases q : eqTs ts us with
   | false => rfl
   | true => have := b1A q; lia
  have hsz : (its.toArray.size != its2.toArray.size) = true := by simpa using hl
  rw [hne]
  exact ⟨SeqAt.RcAt.lists_lengths pl.isList pl2.isList hsz hu', SeqAt.RcNeAt.lists_lengths pl.isList pl2.isList hsz hu'⟩
theorem a6L (hu : X.A.units + 64 < cLine) : OpR3 X (compareOp .Eq) rEq3 := by
 intro pins s σ H x y v u Q2 I rx ry q
 obtain ⟨a, b, M, Q, r1, r2, hh, q, en⟩ := q
 unfold rEq3 rEqv at q
 split at q
 ·rename_i p p'
  split at q
  ·rename_i ts us e1 e2
   obtain ⟨xs, h1, h2⟩ := hh _ _ e1
   obtain ⟨ys, g1, g2⟩ := hh _ _ e2
   obtain rfl := a0o r1
   obtain rfl := a0o r2
   cases rx
   cases ry
   exact (a8T I hu h1 h2 g1 g2 q.1 q.2.1 q.2.2.1).1 _ _ _ _ ⟨.bl _, H, I, rfl, en _ _ M H Kp.refl hh a2Q q.2.2.2⟩
  ·exact q.elim
 ·obtain ⟨q1, q2, q3, q⟩ := q
  exact (b4z I 30 X.A a b x y v u q3 (by lia) q1 q2 r1 r2 rx ry).2.1 _ _ _ _ ⟨.bl _, H, I, rfl, en _ _ M H Kp.refl hh a2Q q⟩
theorem b1h (hu : X.A.units + 64 < cLine) : OpR3 X (compareOp .NotEq) rNe3 := by
 intro pins s σ H x y v u Q2 I rx ry q
 obtain ⟨a, b, M, Q, r1, r2, hh, q, en⟩ := q
 unfold rNe3 rEqv at q
 split at q
 ·rename_i p p'
  split at q
  ·rename_i ts us e1 e2
   obtain ⟨xs, h1, h2⟩ := hh _ _ e1
   obtain ⟨ys, g1, g2⟩ := hh _ _ e2
   obtain rfl := a0o r1
   obtain rfl := a0o r2
   cases rx
   cases ry
   exact (a8T I hu h1 h2 g1 g2 q.1 q.2.1 q.2.2.1).2 _ _ _ _ ⟨.bl _, H, I, rfl, en _ _ M H Kp.refl hh a2Q q.2.2.2⟩
  ·exact q.elim
 ·obtain ⟨q1, q2, q3, q⟩ := q
  exact (b4z I 30 X.A a b x y v u q3 (by lia) q1 q2 r1 r2 rx ry).2.2 _ _ _ _ ⟨.bl _, H, I, rfl, en _ _ M H Kp.refl hh a2Q q⟩
theorem b6i {op : CmpOp} {r : R3} (ho : OpR3 X (compareOp op) r) (ha : HE X a ta) (hb : HE X b tb) (hm : behindInMarks op b = false) : HE X (.Compare a [op] [b] pos) (tOp3 r ta tb) := fun ρ M Q h =>
 (b8m ho (ha.d (ρ := ρ)) (hb.d (ρ := ρ)) hm).imp fun σ H Q2 b => dOp h b
noncomputable def b3c (t : TE3) : TT3 := fun ρ M Q => t ρ M fun x M1 => match x with
 | .bl k => Q k M1
 | _ => False
theorem b1C {K : PySem.W.Frag} {H : Hp} {Q : Bool → MH → Prop} {Q2 : Bool → Hp → Prop} (en : EndT K H Q Q2) : EndE K H (fun x M1 => match x with | .bl k => Q k M1 | _ => False) (fun x H' => ∃ k, x = .bl k ∧ Q2 k H') := by
 intro t v M' H' k h r q
 split at q
 ·obtain rfl := a5e r
  exact ⟨_, rfl, en _ M' H' k h q⟩
 ·exact q.elim
theorem a1W {op : CmpOp} {r : R3} (ho : OpR3 X (compareOp op) r) (ha : HE X a ta) (hb : HE X b tb) (hm : behindInMarks op b = false) : HT X (.Compare a [op] [b] pos) (b3c (tOp3 r ta tb)) := fun ρ M Q h =>
 (b8d ho (ha.d (ρ := ρ)) (hb.d (ρ := ρ)) hm).imp fun σ H Q2 ⟨hr, hh, en⟩ => dOp (ta := ta) (tb := tb) (r := r) h ⟨hr, hh, b1C en⟩
noncomputable def a7i (r r' : R3) (ta tb tc : TE3) : TE3 := fun ρ M Q => ta ρ M fun x M1 => tb ρ M1 fun y M2 => r x y M2 fun z M3 => match z with
 | .bl k => (if k = true then tc ρ M3 fun w M4 => r' y w M4 Q else Q (.bl false) M3)
 | _ => False
theorem b6Z {ρ : En} {M : MH} {Q : VK3} {r r' : R3} (h : a7i r r' ta tb tc ρ M Q) {σ : St} {H : Hp} {Q2 : VK} (b : bE X.K ρ M Q σ H Q2) : b3e (dR X.K r) (dR X.K r') (dE X.K ρ ta) (dE X.K ρ tb) (dE X.K ρ tc) σ H Q2 := by
 obtain ⟨hr, hh, en⟩ := b
 refine ⟨M, _, h, hr, hh, fun t v M1 H1 k1 h1 r1 q1 => ⟨M1, _, q1, hr.kp k1, h1, fun t2 v2 M2 H2 k2 h2 r2 q2 => ⟨t, t2, M2, _, Rep.kp k2 _ _ r1, r2, h2, q2, fun z v3 M3 H3 k3 h3 r3 q3 => ?_⟩⟩⟩
 split at q3
 ·rename_i k
  obtain rfl := a5e r3
  refine ⟨k, rfl, ?_⟩
  have kk := k1.trans (k2.trans k3)
  split
  ·rename_i hk
   rw [if_pos hk] at q3
   exact ⟨M3, _, q3, hr.kp kk, h3, fun t4 v4 M4 H4 k4 h4 r4 q4 => ⟨t2, t4, M4, Q, Rep.kp (k3.trans k4) _ _ r2, r4, h4, q4, en.kp (kk.trans k4)⟩⟩
  ·rename_i hk
   rw [if_neg hk] at q3
   exact en _ _ M3 H3 kk h3 a2Q q3
 ·exact q3.elim
theorem b8L {op op' : CmpOp} {r r' : R3} (ho : OpR3 X (compareOp op) r) (ho' : OpR3 X (compareOp op') r') (ha : HE X a ta) (hb : HE X b tb) (hc : HE X c tc)
  (hm : lastMarks [op, op'] [b, c] = false := by with_unfolding_all rfl) : HE X (.Compare a [op, op'] [b, c] pos) (a7i r r' ta tb tc) := fun ρ M Q h =>
 (b5I ho ho' (ha.d (ρ := ρ)) (hb.d (ρ := ρ)) (hc.d (ρ := ρ)) hm).imp fun σ H Q2 b => b6Z h b
theorem b6g {op op' : CmpOp} {r r' : R3} (ho : OpR3 X (compareOp op) r) (ho' : OpR3 X (compareOp op') r') (ha : HE X a ta) (hb : HE X b tb) (hc : HE X c tc)
  (hm : lastMarks [op, op'] [b, c] = false := by with_unfolding_all rfl) : HT X (.Compare a [op, op'] [b, c] pos) (b3c (a7i r r' ta tb tc)) := fun ρ M Q h =>
 (b5C ho ho' (ha.d (ρ := ρ)) (hb.d (ρ := ρ)) (hc.d (ρ := ρ)) hm).imp fun σ H Q2 ⟨hr, hh, en⟩ => b6Z (ta := ta) (tb := tb) (tc := tc) (r := r) (r' := r') h ⟨hr, hh, b1C en⟩
noncomputable def truT (M : MH) : T → Option Bool
 | .non => some false
 | .bl b => some b
 | .int i => some (i != 0)
 | .str y => if y.length ≤ sizeLine then some (decide (y.length ≠ 0)) else none
 | .tup ts => some (!ts.isEmpty)
 | .rd ts => some (!ts.isEmpty)
 | .dic _ _ => none
 | .adr p => match M p with
   | some (.lst ts) => some (!ts.isEmpty)
   | _ => none
noncomputable def b9G (te : TE3) : TT3 := fun ρ M Q => te ρ M fun x M1 => match truT M1 x with
 | some k => Q k M1
 | none => False
theorem a7W {K : PySem.W.Frag} {H : Hp} {xs : List V} {ts : List T} (h : Reps K H xs ts) : (!xs.isEmpty) = !ts.isEmpty := by
 have := h.length
 cases xs <;> cases ts <;> first | rfl | (simp at this)
theorem a5S (ha : HE X a ta) (he : ∀ whole, isTrue a X.env whole = (do let v ← whole; standAt a.pos; holding [v] (truthy v)) := by intro _; rfl) : HT X a (b9G ta) := fun ρ M Q h =>
 (b5B (ha.d (ρ := ρ)) he).imp fun σ H Q2 ⟨hr, hh, en⟩ => ⟨M, _, h, hr, hh, fun t v M1 H1 k1 h1 r1 q1 => by
  have fin : ∀ k, truT M1 t = some k → Q2 k H1 := fun k e => by
   have q : (match truT M1 t with | some k => Q k M1 | none => False) := q1
   rw [e] at q
   exact en k M1 H1 k1 h1 q
  cases t with
  | non => obtain rfl := b3Z r1; exact ⟨false, rfl, fin _ rfl⟩
  | bl b => obtain rfl := a5e r1; exact ⟨b, rfl, fin _ rfl⟩
  | int i => obtain rfl := a0n r1; exact ⟨_, rfl, fin _ rfl⟩
  | str y =>
    obtain rfl := a3c r1
    by_cases hy : y.length ≤ sizeLine
    ·refine ⟨_, ⟨hy, rfl⟩, fin _ ?_⟩
     show (if y.length ≤ sizeLine then some (decide (y.length ≠ 0)) else none) = _
     rw [if_pos hy]
     congr 1
     by_cases h0 : y.length = 0
     ·rw [h0]; rfl
     ·have : ((y.length : Int) != 0) = true := by simpa using h0
      rw [this]; simpa using h0
    ·have q : (match truT M1 (.str y) with | some k => Q k M1 | none => False) := q1
     have e : truT M1 (.str y) = none := if_neg hy
     rw [e] at q
     exact q.elim
  | tup ts =>
    obtain ⟨p, xs, rfl, g1, g2⟩ := a1l r1
    exact ⟨!xs.isEmpty, .inr (.inl ⟨xs, g1, rfl⟩), fin _ (by rw [a7W g2]; rfl)⟩
  | rd ts =>
    obtain ⟨p, xs, rfl, g1, g2⟩ := b1u r1
    exact ⟨!xs.isEmpty, .inl ⟨xs, g1.sq, rfl⟩, fin _ (by rw [a7W g2]; rfl)⟩
  | dic ks ts =>
    have q : (match truT M1 (.dic ks ts) with | some k => Q k M1 | none => False) := q1
    exact q.elim
  | adr p =>
    obtain rfl := a0o r1
    cases e0 : M1 p with
    | none =>
      have q : (match truT M1 (.adr p) with | some k => Q k M1 | none => False) := q1
      have e : truT M1 (.adr p) = none := by show (match M1 p with | some (.lst ts) => some (!ts.isEmpty) | _ => none) = none; rw [e0]
      rw [e] at q
      exact q.elim
    | some o =>
      cases o with
      | lst ts =>
        obtain ⟨xs, g1, g2⟩ := h1 _ _ e0
        exact ⟨!xs.isEmpty, .inl ⟨xs, SqL.of g1, rfl⟩, fin _ (by show (match M1 p with | some (.lst ts) => some (!ts.isEmpty) | _ => none) = _; rw [e0, a7W g2])⟩
      | dk kvs =>
        have q : (match truT M1 (.adr p) with | some k => Q k M1 | none => False) := q1
        have e : truT M1 (.adr p) = none := by show (match M1 p with | some (.lst ts) => some (!ts.isEmpty) | _ => none) = none; rw [e0]
        rw [e] at q
        exact q.elim
      | dt kvs =>
        have q : (match truT M1 (.adr p) with | some k => Q k M1 | none => False) := q1
        have e : truT M1 (.adr p) = none := by show (match M1 p with | some (.lst ts) => some (!ts.isEmpty) | _ => none) = none; rw [e0]
        rw [e] at q
        exact q.elim
      | fz kvs =>
        have q : (match truT M1 (.adr p) with | some k => Q k M1 | none => False) := q1
        have e : truT M1 (.adr p) = none := by show (match M1 p with | some (.lst ts) => some (!ts.isEmpty) | _ => none) = none; rw [e0]
        rw [e] at q
        exact q.elim
      | fk kvs =>
        have q : (match truT M1 (.adr p) with | some k => Q k M1 | none => False) := q1
        have e : truT M1 (.adr p) = none := by show (match M1 p with | some (.lst ts) => some (!ts.isEmpty) | _ => none) = none; rw [e0]
        rw [e] at q
        exact q.elim⟩
end
section
variable {X : Cx} {a b c e : Expr} {es rest : List Expr} {ta tb tc te : TE3} {tA tB : TT3} {t : TA3} {pos : Pos}
noncomputable def HW (X : Cx) (e : Expr) (t : TT3) : Prop := ∀ ρ M Q, t ρ M Q → PW X e (bT X.K ρ M Q)
theorem HW.d {t : TT3} {ρ : En} (h : HW X e t) : PW X e (dT X.K ρ t) := fun wh pins s σ H Q I ⟨M, Q3, q, b⟩ => h ρ M Q3 q wh pins s σ H Q I b
theorem PW.imp {t t' : TT} (h : PW X e t) (f : ∀ σ H Q, t' σ H Q → t σ H Q) : PW X e t' := fun wh pins s σ H Q I q => h wh pins s σ H Q I (f σ H Q q)
theorem HW.ht {t : TT3} (h : HW X e t) : HT X e t := fun ρ M Q q => (h ρ M Q q).pt
noncomputable def b9V (t u : TT3) : TT3 := fun ρ M Q => t ρ M fun c M1 => if c = true then u ρ M1 Q else Q false M1
noncomputable def tOr3 (t u : TT3) : TT3 := fun ρ M Q => t ρ M fun c M1 => if c = true then Q true M1 else u ρ M1 Q
noncomputable def b9L (t : TT3) : TT3 := fun ρ M Q => t ρ M fun c M1 => Q (!c) M1
theorem b6h (ha : HT X a tA) : HT X (.UnaryOp .Not a pos) (b9L tA) := fun ρ M Q h =>
 (c0l (ha.d (ρ := ρ))).imp fun σ H Q2 ⟨hr, hh, en⟩ => ⟨M, _, h, hr, hh, fun b M1 H1 k1 h1 q1 => en _ M1 H1 k1 h1 q1⟩
theorem b9w (ha : HT X a tA) : HW X (.BoolOp .And [a] pos) tA := fun ρ M Q h => (b8a (ha.d (ρ := ρ))).imp fun σ H Q2 b => ⟨M, Q, h, b⟩
theorem b7r (ha : HT X a tA) : HW X (.BoolOp .Or [a] pos) tA := fun ρ M Q h => (c0j (ha.d (ρ := ρ))).imp fun σ H Q2 b => ⟨M, Q, h, b⟩
theorem c1u (ha : HT X a tA) (hb : HW X (.BoolOp .And (b :: rest) pos) tB) : HW X (.BoolOp .And (a :: b :: rest) pos) (b9V tA tB) := fun ρ M Q h =>
 (c0k (ha.d (ρ := ρ)) (hb.d (ρ := ρ))).imp fun σ H Q2 ⟨hr, hh, en⟩ => ⟨M, _, h, hr, hh, fun b M1 H1 k1 h1 q1 => by
  dsimp only at q1 ⊢
  split
  ·rename_i hb; rw [if_pos hb] at q1
   exact ⟨M1, Q, q1, hr.kp k1, h1, fun b' M2 H2 k2 => en b' M2 H2 (k1.trans k2)⟩
  ·rename_i hb; rw [if_neg hb] at q1
   exact en _ M1 H1 k1 h1 q1⟩
theorem w_or (ha : HT X a tA) (hb : HW X (.BoolOp .Or (b :: rest) pos) tB) : HW X (.BoolOp .Or (a :: b :: rest) pos) (tOr3 tA tB) := fun ρ M Q h =>
 (c1H (ha.d (ρ := ρ)) (hb.d (ρ := ρ))).imp fun σ H Q2 ⟨hr, hh, en⟩ => ⟨M, _, h, hr, hh, fun b M1 H1 k1 h1 q1 => by
  dsimp only at q1 ⊢
  split
  ·rename_i hb; rw [if_pos hb] at q1
   exact en _ M1 H1 k1 h1 q1
  ·rename_i hb; rw [if_neg hb] at q1
   exact ⟨M1, Q, q1, hr.kp k1, h1, fun b' M2 H2 k2 => en b' M2 H2 (k1.trans k2)⟩⟩
noncomputable def b9K (ta tb : TE3) : TE3 := fun ρ M Q => ta ρ M fun x M1 => match x with
 | .bl c => (if c = true then Q (.bl true) M1 else tb ρ M1 Q)
 | _ => False
theorem c2a {op} (ha : HE X a ta) : HE X (.BoolOp op [a] pos) ta := fun ρ M Q h => c0t (ha ρ M Q h)
theorem h_or (ha : HE X a ta) (hb : HE X (.BoolOp .Or (b :: rest) pos) tb) : HE X (.BoolOp .Or (a :: b :: rest) pos) (b9K ta tb) := fun ρ M Q h =>
 (c1K (ha.d (ρ := ρ)) (hb.d (ρ := ρ))).imp fun σ H Q2 ⟨hr, hh, en⟩ => ⟨M, _, h, hr, hh, fun x v M1 H1 k1 h1 r1 q1 => by
  dsimp only at q1 ⊢
  split at q1
  ·rename_i c
   obtain rfl := a5e r1
   refine ⟨c, rfl, ?_⟩
   split
   ·rename_i hc; rw [if_pos hc] at q1
    exact en _ _ M1 H1 k1 h1 a2Q q1
   ·rename_i hc; rw [if_neg hc] at q1
    exact ⟨M1, Q, q1, hr.kp k1, h1, en.kp k1⟩
  ·exact q1.elim⟩
noncomputable def tIf3 (t : TT3) (ta tb : TE3) : TE3 := fun ρ M Q => t ρ M fun c M1 => if c = true then ta ρ M1 Q else tb ρ M1 Q
theorem b8K (hc : HT X c tA) (ha : HE X a ta) (hb : HE X b tb) : HE X (.IfExp c a b pos) (tIf3 tA ta tb) := fun ρ M Q h =>
 (b5G (hc.d (ρ := ρ)) (ha.d (ρ := ρ)) (hb.d (ρ := ρ))).imp fun σ H Q2 ⟨hr, hh, en⟩ => ⟨M, _, h, hr, hh, fun b M1 H1 k1 h1 q1 => by
  dsimp only at q1 ⊢
  split
  ·rename_i hb; rw [if_pos hb] at q1
   exact ⟨M1, Q, q1, hr.kp k1, h1, en.kp k1⟩
  ·rename_i hb; rw [if_neg hb] at q1
   exact ⟨M1, Q, q1, hr.kp k1, h1, en.kp k1⟩⟩
noncomputable def b9M : TA3 := fun _ M Q => Q [] M
noncomputable def b3d (ta : TE3) (tr : TA3) : TA3 := fun ρ M Q => ta ρ M fun x M1 => tr ρ M1 fun xs M2 => Q (x :: xs) M2
theorem a0f : HA X [] b9M := fun ρ M Q h => b6R.imp fun σ H Q2 ⟨hr, hh, en⟩ => en [] [] M H Kp.refl hh .nil h
theorem a0a (ha : HE X a ta) (hr : HA X es t) (hs : starEach (a :: es) X.env = (false, eval a X.env) :: starEach es X.env := by rfl) : HA X (a :: es) (b3d ta t) := fun ρ M Q h =>
 (b3F (ha.d (ρ := ρ)) (hr.d (ρ := ρ)) hs).imp fun σ H Q2 ⟨hr, hh, en⟩ => ⟨M, _, h, hr, hh, fun x v M1 H1 k1 h1 r1 q1 => ⟨M1, _, q1, hr.kp k1, h1, fun ts vs M2 H2 k2 h2 r2 q2 =>
  en _ _ M2 H2 (k1.trans k2) h2 (.cons (Rep.kp k2 _ _ r1) r2) q2⟩⟩
noncomputable def b9F (t : TA3) : TE3 := fun ρ M Q => t ρ M fun xs M1 => xs.length ≤ sizeLine ∧ Q (.tup xs) M1
noncomputable def b9N (t : TA3) : TE3 := fun ρ M Q => t ρ M fun xs M1 => xs.length ≤ sizeLine ∧ ∀ p, M1 p = none → Q (.adr p) (updM M1 p (.lst xs))
theorem a7N {x1} (h : HA X es t) : HE X (.Tuple es x1 pos) (b9F t) := fun ρ M Q q =>
 (c0s (h.d (ρ := ρ))).imp fun σ H Q2 ⟨hr, hh, en⟩ => ⟨M, _, q, hr, hh, fun ts vs M1 H1 k1 h1 r1 q1 =>
  ⟨by rw [r1.length]; exact q1.1, fun p hp => en _ _ M1 _ (k1.trans (Kp.new hp)) (h1.keep hp) (a1U (SqT.of a0A) (Reps.kp (Kp.new hp) _ _ r1)) q1.2⟩⟩
theorem b0t (h : HA X es t) : HE X (.List es pos) (b9N t) := fun ρ M Q q =>
 (c0u (h.d (ρ := ρ))).imp fun σ H Q2 ⟨hr, hh, en⟩ => ⟨M, _, q, hr, hh, fun ts vs M1 H1 k1 h1 r1 q1 =>
  ⟨by rw [r1.length]; exact q1.1, fun p hp => en _ _ _ _ (k1.trans (Kp.new hp)) (h1.newL hp r1) a2y (q1.2 p (h1.free hp))⟩⟩
noncomputable abbrev Sp3 := List T → MH → VK3 → Prop
noncomputable def dSp (K : PySem.W.Frag) (sp : Sp3) : Sp := fun vs H Q2 _ => ∃ ts M Q, Reps K H vs ts ∧ HR K H M ∧ sp ts M Q ∧ EndE K H Q Q2
structure Df (P : Program) (w : World) (K : PySem.W.Frag) (mg : Str → Option Value) (base : Heap) (n : Nat) (x : Str) (ps : List Str) (sp : Sp3) : Prop where
 out : ∃ f fd, FnOk P w K mg base CX0 n f fd ps (dSp K sp) ∧ mg x = some (.ref f) ∧ PySem.W.keepIn K (.ref f) = true ∧ a1K K fd ps []
theorem Df.mono {P : Program} {w : World} {K : PySem.W.Frag} {mg : Str → Option Value} {base : Heap} {n m : Nat} {x : Str} {ps : List Str} {sp : Sp3} (D : Df P w K mg base n x ps sp) (h : n ≤ m) : Df P w K mg base m x ps sp := by
 obtain ⟨f, fd, F, a, b, c⟩ := D.out
 exact ⟨f, fd, F.mono h, a, b, c⟩
noncomputable def b6N (sp : Sp3) (t : TA3) : TE3 := fun ρ M Q => t ρ M fun ts M1 => sp ts M1 Q
theorem a0r {n : Nat} {x : Str} {ps : List Str} {sp : Sp3} {p : Pos} (D : Df X.prog X.w X.K X.mg X.base n x ps sp) (hr : Room n X.A) (ha : HA X (e :: es) t) (hg : Gl X x := by rfl) (hdb : (x == ("__debug__" : Str)) = false := by decide)
  (he : starEach (e :: es) X.env = (false, eval e X.env) :: starEach es X.env := by rfl) (hpl : (backTo pos (starEach es X.env)).any (·.1) = false := by rfl) :
  HE X (.Call (.Name x p) (e :: es) [] pos) (b6N sp t) := fun ρ M Q h => by
 obtain ⟨f, fd, F, hm, hk, hb⟩ := D.out
 exact (b8n F hr hg hm hk hb .nil c1P (ha.d (ρ := ρ)) hdb he hpl).imp fun σ H Q2 ⟨hr, hh, en⟩ => ⟨M, _, h, hr, hh, fun ts vs M1 H1 k1 h1 r1 q1 =>
  ⟨ts, M1, Q, by rw [List.append_nil]; exact r1, h1, q1, en.kp k1⟩⟩
noncomputable def tCB3 (r : List T → MH → VK3 → Prop) (t : TA3) : TE3 := fun ρ M Q => t ρ M fun ts M1 => r ts M1 Q
theorem a1f {x : Str} {id : String} {r : List T → MH → VK3 → Prop} {p : Pos} (hc : a3k X (.builtin id) r) (hm : X.mg x = none) (hv : bootBuiltins x = some (.builtin id)) (ha : HA X (e :: es) t) (hg : Gl X x := by rfl) (hn : x ≠ "__name__" := by decide) (hdb : (x == ("__debug__" : Str)) = false := by decide)
  (he : starEach (e :: es) X.env = (false, eval e X.env) :: starEach es X.env := by rfl) (hpl : (backTo pos (starEach es X.env)).any (·.1) = false := by rfl) : HE X (.Call (.Name x p) (e :: es) [] pos) (tCB3 r t) := fun ρ M Q h =>
 (b5J hc hg hm hv (ha.d (ρ := ρ)) hn hdb he hpl).imp fun σ H Q2 ⟨hr, hh, en⟩ => ⟨M, _, h, hr, hh, fun ts vs M1 H1 k1 h1 r1 q1 => ⟨ts, M1, Q, r1, h1, q1, en.kp k1⟩⟩
theorem a4Q {x : Str} {ty : String} {r : List T → MH → VK3 → Prop} {p : Pos} (hc : a3k X (.type ty) r) (hm : X.mg x = none) (hv : bootBuiltins x = some (.type ty)) (ha : HA X (e :: es) t) (hg : Gl X x := by rfl) (hn : x ≠ "__name__" := by decide) (hdb : (x == ("__debug__" : Str)) = false := by decide)
  (he : starEach (e :: es) X.env = (false, eval e X.env) :: starEach es X.env := by rfl) (hpl : (backTo pos (starEach es X.env)).any (·.1) = false := by rfl) : HE X (.Call (.Name x p) (e :: es) [] pos) (tCB3 r t) := fun ρ M Q h =>
 (b3E hc hg hm hv (ha.d (ρ := ρ)) hn hdb he hpl).imp fun σ H Q2 ⟨hr, hh, en⟩ => ⟨M, _, h, hr, hh, fun ts vs M1 H1 k1 h1 r1 q1 => ⟨ts, M1, Q, r1, h1, q1, en.kp k1⟩⟩
end
section
variable {X : Cx}
theorem a2r {K : PySem.W.Frag} {H : Hp} {vs : List V} {x : T} (r : Reps K H vs [x]) : ∃ v, vs = [v] ∧ Rep K H v x := by
 unfold Reps at r
 obtain ⟨v, w, rfl, h, r⟩ := r
 unfold Reps at r
 subst r
 exact ⟨v, rfl, h⟩
theorem b7L {K : PySem.W.Frag} {H : Hp} {vs : List V} {x y : T} (r : Reps K H vs [x, y]) : ∃ v w, vs = [v, w] ∧ Rep K H v x ∧ Rep K H w y := by
 unfold Reps at r
 obtain ⟨v, r', rfl, h, r⟩ := r
 obtain ⟨w, rfl, h'⟩ := a2r r
 exact ⟨v, w, rfl, h, h'⟩
noncomputable def b7T : List T → MH → VK3 → Prop := fun xs M Q => match xs with
 | [.tup ts] => Q (.int ts.length) M
 | [.rd ts] => Q (.int ts.length) M
 | [.adr p] => (match M p with | some (.lst ts) => Q (.int ts.length) M | _ => False)
 | [.str z] => z.length ≤ sizeLine ∧ Q (.int z.length) M
 | _ => False
theorem a2U : a3k X (.builtin "len") b7T := by
 intro pins s σ H vs us Q2 I r h
 obtain ⟨xs, M, Q, rr, hh, q, en⟩ := h
 unfold b7T at q
 split at q
 ·obtain ⟨v, rfl, r1⟩ := a2r rr
  obtain ⟨p, ys, rfl, g1, g2⟩ := a1l r1
  exact a3x pins s σ H _ us Q2 I r ⟨p, ys, rfl, .inr g1, by rw [g2.length]; exact en _ _ M H Kp.refl hh a0i q⟩
 ·obtain ⟨v, rfl, r1⟩ := a2r rr
  obtain ⟨p, ys, rfl, g1, g2⟩ := b1u r1
  exact a3x pins s σ H _ us Q2 I r ⟨p, ys, rfl, .inl g1.sq, by rw [g2.length]; exact en _ _ M H Kp.refl hh a0i q⟩
 ·obtain ⟨v, rfl, r1⟩ := a2r rr
  obtain rfl := a0o r1
  split at q
  ·rename_i ts e0
   obtain ⟨ys, g1, g2⟩ := hh _ _ e0
   exact a3x pins s σ H _ us Q2 I r ⟨_, ys, rfl, .inl (SqL.of g1), by rw [g2.length]; exact en _ _ M H Kp.refl hh a0i q⟩
  ·exact q.elim
 ·obtain ⟨v, rfl, r1⟩ := a2r rr
  obtain rfl := a3c r1
  exact a9x pins s σ H _ us Q2 I r ⟨_, rfl, q.1, en _ _ M H Kp.refl hh a0i q.2⟩
 ·exact q.elim
noncomputable def b7Z : List T → MH → VK3 → Prop := fun xs M Q => match xs with
 | [.int i] => Q (.int i.natAbs) M
 | _ => False
theorem a2V : a3k X (.builtin "abs") b7Z := by
 intro pins s σ H vs us Q2 I r h
 obtain ⟨xs, M, Q, rr, hh, q, en⟩ := h
 unfold b7Z at q
 split at q
 ·rename_i i
  obtain ⟨v, rfl, r1⟩ := a2r rr
  obtain rfl := a0n r1
  refine b6y pins s σ H _ us Q2 I r ⟨_, rfl, en _ _ M H Kp.refl hh ?_ q⟩
  have e : (if i < 0 then -i else i) = (i.natAbs : Int) := by split <;> lia
  rw [e]; exact a0i
 ·exact q.elim
noncomputable def b0b : List T → MH → VK3 → Prop := fun xs M Q => match xs with
 | [.tup ts] => Q (.tup ts) M
 | [.rd ts] => Q (.tup ts) M
 | [.adr p] => (match M p with | some (.lst ts) => Q (.tup ts) M | _ => False)
 | _ => False
theorem a4c : a3k X (.type "tuple") b0b := by
 intro pins s σ H vs us Q2 I r h
 obtain ⟨xs, M, Q, rr, hh, q, en⟩ := h
 unfold b0b at q
 split at q
 ·obtain ⟨v, rfl, r1⟩ := a2r rr
  obtain ⟨p, ys, rfl, g1, g2⟩ := a1l r1
  exact a3e pins s σ H _ us Q2 I r ⟨p, ys, rfl, .inr ⟨g1, en _ _ M H Kp.refl hh r1 q⟩⟩
 ·obtain ⟨v, rfl, r1⟩ := a2r rr
  obtain ⟨p, ys, rfl, g1, g2⟩ := b1u r1
  exact a3e pins s σ H _ us Q2 I r ⟨p, ys, rfl, .inl ⟨g1.sq, fun l hl => en _ _ M _ (Kp.new hl) (hh.keep hl) (a1U (SqT.of a0A) (Reps.kp (Kp.new hl) _ _ g2)) q⟩⟩
 ·obtain ⟨v, rfl, r1⟩ := a2r rr
  obtain rfl := a0o r1
  split at q
  ·rename_i ts e0
   obtain ⟨ys, g1, g2⟩ := hh _ _ e0
   exact a3e pins s σ H _ us Q2 I r ⟨_, ys, rfl, .inl ⟨SqL.of g1, fun l hl => en _ _ M _ (Kp.new hl) (hh.keep hl) (a1U (SqT.of a0A) (Reps.kp (Kp.new hl) _ _ g2)) q⟩⟩
  ·exact q.elim
 ·exact q.elim
noncomputable def b7U : List T → MH → VK3 → Prop := fun xs M Q => match xs with
 | [.int i] => Q (.int i) M
 | [.bl k] => Q (.int (if k = true then 1 else 0)) M
 | [.str x] => ∃ n, PySem.intText? x = some n ∧ x.length ≤ 640 ∧ Q (.int n) M
 | _ => False
theorem b4W : a3k X (.type "int") b7U := by
 intro pins s σ H vs us Q2 I r h
 obtain ⟨xs, M, Q, rr, hh, q, en⟩ := h
 unfold b7U at q
 split at q
 ·obtain ⟨v, rfl, r1⟩ := a2r rr
  obtain rfl := a0n r1
  exact a9y pins s σ H _ us Q2 I r (.inl ⟨_, rfl, en _ _ M H Kp.refl hh a0i q⟩)
 ·obtain ⟨v, rfl, r1⟩ := a2r rr
  obtain rfl := a5e r1
  exact a9y pins s σ H _ us Q2 I r (.inr ⟨_, rfl, en _ _ M H Kp.refl hh a0i q⟩)
 ·obtain ⟨n, hn, hl, q⟩ := q
  obtain ⟨v, rfl, r1⟩ := a2r rr
  obtain rfl := a3c r1
  obtain ⟨u, rfl, ru⟩ := a3n r
  obtain ⟨t, rfl⟩ := ru
  exact PySem.W.KIN.call_text hn hl ⟨.int n, H, I.kept fun b o e => e, ⟨_, rfl⟩, en _ _ M H Kp.refl hh a0i q⟩
 ·exact q.elim
theorem a6y (hc : X.calm = true) : a6z X (.builtin "all") (fun xs H Q => ∃ (p : Addr) (bs : List Bool), xs = [.ref p] ∧ SqL X.K H p (bs.map V.bl) ∧ Q (.bl (bs.all id)) H) := by
 intro pins s σ H xs us Q I r h
 obtain ⟨p, bs, rfl, hq, q⟩ := h
 obtain ⟨u, rfl, rx⟩ := a3n r
 cases rx
 obtain ⟨its, r', pl, hz⟩ := I.list hq
 have hlen := r'.length
 refine call_all_walk (wpAny_pyIter_list pl.isList ?_)
 have hp : p < s.heap.objs.size := by obtain ⟨o, n, e, _⟩ := pl; exact Heap.lt_size e
 refine ⟨s.heap.objs.size, _, _, _, _, _, fun i => (bs[i]?).getD true, rfl, Walks.list (A := X.A.in1) (I.ok.hd hc) s.heap.objs.size p (Nat.ne_of_lt hp) its.toArray, ⟨⟨_, Heap.get?_push_size _ rfl, rfl, rfl⟩, pl.isList.push _⟩, ?_, fun h' tk hk => ?_⟩
 ·intro i v s' Q' E' hP hQ
  have hP' : its[i]? = some v := by simpa using hP
  have hi : i < bs.length := by
   have := (List.getElem?_eq_some_iff.mp hP').1
   rw [List.length_map] at hlen; lia
  obtain ⟨w, hw, rw'⟩ := r'.get (i := i) (x := .bl bs[i]) (by rw [List.getElem?_map, List.getElem?_eq_getElem hi] <;> rfl)
  rw [hP'] at hw; cases hw
  obtain rfl : v = Value.bool bs[i] := rw'
  refine wpAny_truthy_bool ?_
  have e : (bs[i]?).getD true = bs[i] := by rw [List.getElem?_eq_getElem hi] <;> rfl
  dsimp only at hQ; rw [e] at hQ; exact hQ
 ·have e : (List.range its.toArray.size).all (fun i => (bs[i]?).getD true) = bs.all id := by
   rw [List.length_map] at hlen
   rw [List.size_toArray, ← hlen]
   rw [Bool.eq_iff_iff]
   simp only [List.all_eq_true, List.mem_range, id]
   constructor
   ·intro h b hb
    obtain ⟨i, hi, rfl⟩ := List.getElem_of_mem hb
    have := h i hi
    rw [List.getElem?_eq_getElem hi] at this; exact this
   ·intro h i hi
    rw [List.getElem?_eq_getElem hi]; exact h _ (List.getElem_mem hi)
  rw [e]
  have I1 : Inv X pins σ H { s with heap := h', toks := tk } := I.kept fun b o eb => hk b o (by
   intro hm
   have : b = s.heap.objs.size := by simpa using hm
   rw [this] at eb
   exact absurd (Heap.lt_size eb) (Nat.lt_irrefl _)) (Heap.get?_push_of_some _ eb)
  exact ⟨.bl _, H, I1, rfl, q⟩
noncomputable def a8g : List T → Option (List Bool)
 | [] => some []
 | .bl b :: ts => (a8g ts).map (b :: ·)
 | _ :: _ => none
theorem a6Y {K : PySem.W.Frag} {H : Hp} : ∀ {vs : List V} {ts : List T} {bs : List Bool}, Reps K H vs ts → a8g ts = some bs → vs = bs.map V.bl
 | vs, [], bs, h, e => by unfold a8g at e; cases e; unfold Reps at h; exact h
 | vs, t :: ts, bs, h, e => by
   unfold Reps at h
   obtain ⟨v, r, rfl, h1, h2⟩ := h
   cases t with
   | bl b =>
     unfold a8g at e
     cases q : a8g ts with
     | none => rw [q] at e; cases e
     | some cs =>
       rw [q] at e; cases e
       obtain rfl := a5e h1
       rw [a6Y h2 q]; rfl
   | _ => unfold a8g at e; cases e
noncomputable def b7X : List T → MH → VK3 → Prop := fun xs M Q => match xs with
 | [.adr p] => (match M p with | some (.lst ts) => (match a8g ts with | some bs => Q (.bl (bs.all id)) M | none => False) | _ => False)
 | _ => False
theorem b4X (hc : X.calm = true) : a3k X (.builtin "all") b7X := by
 intro pins s σ H vs us Q2 I r h
 obtain ⟨xs, M, Q, rr, hh, q, en⟩ := h
 unfold b7X at q
 split at q
 ·obtain ⟨v, rfl, r1⟩ := a2r rr
  obtain rfl := a0o r1
  split at q
  ·rename_i ts e0
   obtain ⟨ys, g1, g2⟩ := hh _ _ e0
   split at q
   ·rename_i bs eb
    obtain rfl := a6Y g2 eb
    exact a6y hc pins s σ H _ us Q2 I r ⟨_, bs, rfl, SqL.of g1, en _ _ M H Kp.refl hh a2Q q⟩
   ·exact q.elim
  ·exact q.elim
 ·exact q.elim
end
section
variable {X : Cx} {a b c e : Expr} {st : Stmt} {rest ba bb body : List Stmt} {ta tb te : TE3} {tA : TT3} {t u : TS3} {pos : Pos}
noncomputable def b6J : TS3 := fun D ρ M => D.nx ρ M
noncomputable def a3l (t u : TS3) : TS3 := fun D ρ M => t { D with nx := u D } ρ M
theorem EndS.nx' {K : PySem.W.Frag} {H : Hp} {D : Ends3} {D2 : Ends} {t : TS3} (h : EndS K H D D2) : EndS K H { D with nx := t D } { D2 with nx := dS K t D2 } :=
 ⟨fun ρ' M' σ' H' k r hh q => ⟨D, ρ', M', q, r, hh, h.kp k⟩, h.rt, h.bk, h.ct⟩
theorem a2E : HSs X [] b6J := fun D ρ M h => b8f.imp fun D2 σ H ⟨hr, hh, en⟩ => en.nx ρ M σ H Kp.refl hr hh h
theorem a0d (h1 : HS X st t) (h2 : HSs X rest u) : HSs X (st :: rest) (a3l t u) := fun D ρ M h =>
 (b5D h1.d h2.d).imp fun D2 σ H ⟨hr, hh, en⟩ => ⟨{ D with nx := u D }, ρ, M, h, hr, hh, en.nx'⟩
theorem a0l (h1 : HS X st t) : HSs X [st] t := fun D ρ M h => b8e (h1 D ρ M h)
noncomputable def b9J (te : TE3) : TS3 := fun D ρ M => te ρ M D.rt
theorem a1h (he : HE X e te) : HS X (.Return (some e) pos) (b9J te) := fun D ρ M h =>
 (c0n (he.d (ρ := ρ))).imp fun D2 σ H ⟨hr, hh, en⟩ => ⟨M, _, h, hr, hh, en.rt⟩
noncomputable def b9O (c : TT3) (t u : TS3) : TS3 := fun D ρ M => c ρ M fun b M1 => if b = true then t D ρ M1 else u D ρ M1
theorem s_if (hc : HT X c tA) (ha : HSs X ba t) (hb : HSs X bb u) : HS X (.If c ba bb pos) (b9O tA t u) := fun D ρ M h =>
 (c1I (hc.d (ρ := ρ)) ha.d hb.d).imp fun D2 σ H ⟨hr, hh, en⟩ => ⟨M, _, h, hr, hh, fun b M1 H1 k1 h1 q1 => by
  dsimp only at q1 ⊢
  split
  ·rename_i hb; rw [if_pos hb] at q1
   exact ⟨D, ρ, M1, q1, hr.kp k1, h1, en.kp k1⟩
  ·rename_i hb; rw [if_neg hb] at q1
   exact ⟨D, ρ, M1, q1, hr.kp k1, h1, en.kp k1⟩⟩
noncomputable def b7y : TS3 := fun _ _ _ => False
theorem b7H : HS X st b7y := fun _ _ _ h => h.elim
noncomputable def b6M (te : TE3) : TS3 := fun D ρ M => te ρ M fun _ M1 => D.nx ρ M1
theorem b0X (he : HE X e te) (hs : swapsWith e none pos.line X.env = pure false := by rfl) : HS X (.Expr e pos) (b6M te) := fun D ρ M h =>
 (b8h (he.d (ρ := ρ)) hs).imp fun D2 σ H ⟨hr, hh, en⟩ => ⟨M, _, h, hr, hh, fun x v M1 H1 k1 h1 r1 q1 => en.nx ρ M1 σ H1 k1 (hr.kp k1) h1 q1⟩
noncomputable def b7w (i : Nat) (te : TE3) : TS3 := fun D ρ M => te ρ M fun x M1 => D.nx (ρ.set i (some x)) M1
theorem a1t {i : Nat} {x : Str} {pos' : Pos} (he : HE X e te) (hN : X.N.Nodup) (hi : X.N[i]? = some x := by rfl) (hx : Loc X.env.scope x := by first | exact Or.inl rfl | exact Or.inr rfl) (hs : swapsWith e (some (.Name x pos')) pos.line X.env = pure false := by rfl)
  (hf : X.fn x = true ∨ X.env.scope.names.lookup x = some .local := by first | exact .inl rfl | exact .inr rfl | assumption) : HS X (.Assign [.Name x pos'] e pos) (b7w i te) := fun D ρ M h =>
 (c0m hN hi hx (he.d (ρ := ρ)) hs hf).imp fun D2 σ H ⟨hr, hh, en⟩ => ⟨M, _, h, hr, hh, fun t v M1 H1 k1 h1 r1 q1 => en.nx _ M1 _ H1 k1 ((hr.kp k1).set i r1) h1 q1⟩
noncomputable abbrev TG3 := T → En → MH → (En → MH → Prop) → Prop
noncomputable abbrev TGs3 := List T → En → MH → (En → MH → Prop) → Prop
noncomputable def EndG (K : PySem.W.Frag) (H : Hp) (Q : En → MH → Prop) (Q2 : St → Hp → Prop) : Prop := ∀ ρ' M' σ' H', Kp K H H' → RhoR K σ' H' ρ' → HR K H' M' → Q ρ' M' → Q2 σ' H'
noncomputable def dG (K : PySem.W.Frag) (g : TG3) : TG := fun v σ H Q2 => ∃ t ρ M Q, g t ρ M Q ∧ Rep K H v t ∧ RhoR K σ H ρ ∧ HR K H M ∧ EndG K H Q Q2
noncomputable def dGs (K : PySem.W.Frag) (g : TGs3) : TGs := fun vs σ H Q2 => ∃ ts ρ M Q, g ts ρ M Q ∧ Reps K H vs ts ∧ RhoR K σ H ρ ∧ HR K H M ∧ EndG K H Q Q2
noncomputable def HG (X : Cx) (tg : Expr) (g : TG3) : Prop := PG X tg (dG X.K g)
noncomputable def HGs (X : Cx) (tgs : List Expr) (g : TGs3) : Prop := PGs X tgs (dGs X.K g)
noncomputable def a9h (i : Nat) : TG3 := fun t ρ M Q => Q (ρ.set i (some t)) M
theorem PG.imp {tg : Expr} {g g' : TG} (h : PG X tg g) (f : ∀ v σ H Q, g' v σ H Q → g v σ H Q) : PG X tg g' := fun pins s σ H v u Q I r q => h pins s σ H v u Q I r (f v σ H Q q)
theorem PGs.imp {tg : List Expr} {g g' : TGs} (h : PGs X tg g) (f : ∀ v σ H Q, g' v σ H Q → g v σ H Q) : PGs X tg g' := fun pins s σ H v u Q I r q => h pins s σ H v u Q I r (f v σ H Q q)
theorem a2J {i : Nat} {x : Str} (hN : X.N.Nodup) (hi : X.N[i]? = some x := by rfl) (hx : Loc X.env.scope x := by first | exact Or.inl rfl | exact Or.inr rfl) (hf : X.fn x = true ∨ X.env.scope.names.lookup x = some .local := by first | exact .inl rfl | exact .inr rfl | assumption) : HG X (.Name x pos) (a9h i) :=
 (a1y hN hi hx hf).imp fun v σ H Q2 ⟨t, ρ, M, Q, q, r, hr, hh, en⟩ => en _ M _ H Kp.refl (hr.set i r) hh q
noncomputable def b8N : TGs3 := fun ts ρ M Q => ts = [] ∧ Q ρ M
noncomputable def a9k (g : TG3) (gs : TGs3) : TGs3 := fun ts ρ M Q => match ts with
 | t :: r => g t ρ M fun ρ1 M1 => gs r ρ1 M1 Q
 | [] => False
theorem a9d : HGs X [] b8N := b3A.imp fun v σ H Q2 ⟨ts, ρ, M, Q, ⟨e, q⟩, r, hr, hh, en⟩ => by
 subst e
 unfold Reps at r
 exact ⟨r, en ρ M σ H Kp.refl hr hh q⟩
theorem a2M {es : List Expr} {g : TG3} {gs : TGs3} (h1 : HG X e g) (h2 : HGs X es gs) (hs : (assignEach (e :: es) X.env).map (·.2) = assign e X.env :: (assignEach es X.env).map (·.2) := by rfl) : HGs X (e :: es) (a9k g gs) :=
 (a7x h1 h2 hs).imp fun vs σ H Q2 ⟨ts, ρ, M, Q, q, r, hr, hh, en⟩ => by
  unfold a9k at q
  split at q
  ·rename_i t r'
   unfold Reps at r
   obtain ⟨v, vr, rfl, r1, r2⟩ := r
   exact ⟨v, vr, rfl, t, ρ, M, _, q, r1, hr, hh, fun ρ' M' σ' H' k hr' hh' q' => ⟨r', ρ', M', Q, q', Reps.kp k _ _ r2, hr', hh', fun ρ2 M2 σ2 H2 k2 => en ρ2 M2 σ2 H2 (k.trans k2)⟩⟩
  ·exact q.elim
noncomputable def b4n (n : Nat) (gs : TGs3) : TG3 := fun t ρ M Q => match t with
 | .tup ts => ts.length = n ∧ gs ts ρ M Q
 | _ => False
theorem b4m {es : List Expr} {k : Nat} {gs : TGs3} {n : Nat} (hc : X.calm = true) (h : HGs X es gs) (hn : (assignEach es X.env).length = n := by rfl) (hst : (assignEach es X.env).findIdx? (·.1) = none := by rfl) : HG X (.Tuple es k pos) (b4n n gs) :=
 (b6Q hc h hn hst).imp fun v σ H Q2 ⟨t, ρ, M, Q, q, r, hr, hh, en⟩ => by
  unfold b4n at q
  split at q
  ·rename_i ts
   obtain ⟨a, xs, rfl, g1, g2⟩ := a1l r
   exact ⟨a, xs, rfl, g1, by rw [g2.length]; exact q.1, ts, ρ, M, Q, q.2, g2, hr, hh, en⟩
  ·exact q.elim
noncomputable def c0X (to ti : TE3) : TG3 := fun v ρ M Q => to ρ M fun o M1 => ti ρ M1 fun i M2 => match o, i with
 | .adr p, .int k => (match M2 p with
   | some (.lst ts) => (match ixN ts.length k with | some j => Q ρ (updM M2 p (.lst (ts.set j v))) | none => False)
   | _ => False)
 | _, _ => False
theorem c0W {o i : Expr} {to ti : TE3} (ho : HE X o to) (hi : HE X i ti)
  (ha : ∀ v, assign (.Subscript o i pos) X.env v = (do
   let ov ← holding [v] (eval o X.env)
   let iv ← holding [v, ov] (eval i X.env)
   standAt pos
   holding [v, ov, iv] (setItem ov iv v)
   release [v, ov, iv] []) := by intro _; rfl) : HG X (.Subscript o i pos) (c0X to ti) := by
 intro pins s σ H v u Q2 I r h
 obtain ⟨t, ρ, M, Q, q, rt, hr, hh, en⟩ := h
 refine c0q (ho.d (ρ := ρ)) (hi.d (ρ := ρ)) b5r ha pins s σ H v u Q2 I r ?_
 refine ⟨M, _, q, hr, hh, fun ot ov M1 H1 k1 h1 r1 q1 => ⟨M1, _, q1, hr.kp k1, h1, fun it iv M2 H2 k2 h2 r2 q2 => ?_⟩⟩
 dsimp only at q2
 split at q2
 ·obtain rfl := a0o r1
  obtain rfl := a0n r2
  split at q2
  ·rename_i ts e0
   obtain ⟨xs, g1, g2⟩ := h2 _ _ e0
   split at q2
   ·rename_i j ej
    have kk := k1.trans k2
    refine ⟨_, xs, _, j, rfl, rfl, g1, by rw [g2.length]; exact ej, en _ _ σ _ (kk.trans (Kp.lst g1)) (hr.kp (kk.trans (Kp.lst g1))) (h2.setL g1 (g2.set (Rep.kp kk _ _ rt) j)) q2⟩
   ·exact q2.elim
  ·exact q2.elim
 ·exact q2.elim
noncomputable def b9U (te : TE3) (g : TG3) : TS3 := fun D ρ M => te ρ M fun x M1 => g x ρ M1 D.nx
theorem b7I {tg : Expr} {g : TG3} (he : HE X e te) (hg : HG X tg g) (hs : swapsWithSole [tg] e pos.line X.env = pure false := by rfl) (hw : swappedStores [tg] e X.env = pure none := by rfl)
  (h1 : (assignEach [tg] X.env).map (·.2) = [assign tg X.env] := by rfl) : HS X (.Assign [tg] e pos) (b9U te g) := fun D ρ M h =>
 (c0p (he.d (ρ := ρ)) hg hs hw h1).imp fun D2 σ H ⟨hr, hh, en⟩ => ⟨M, _, h, hr, hh, fun t v M1 H1 k1 h1 r1 q1 => ⟨t, ρ, M1, D.nx, q1, r1, hr.kp k1, h1, fun ρ' M' σ' H' k r hh' q => en.nx ρ' M' σ' H' (k1.trans k) r hh' q⟩⟩
structure It3 where
 items : List T
 stay : MH → Prop := fun _ => True
noncomputable abbrev TI3 := En → MH → (It3 → MH → Prop) → Prop
structure ItOk (K : PySem.W.Frag) (H : Hp) (J2 : It) (J : It3) : Prop where
 stop : ∀ H' M', Kp K H H' → HR K H' M' → J.stay M' → J2.stop J.items.length H'
 go : ∀ (i : Nat) (x : T) H' M', J.items[i]? = some x → Kp K H H' → HR K H' M' → J.stay M' → J2.go i H' ∧ ∀ v H'', J2.yld i H' v H'' → Kp K H' H'' ∧ HR K H'' M' ∧ Rep K H'' v x
noncomputable def HI (X : Cx) (tg iter : Expr) (wi : TI3) : Prop := ∀ ρ M R, wi ρ M R → PI X tg iter (fun σ H R2 => RhoR X.K σ H ρ ∧ HR X.K H M ∧ ∀ J J2 M' H', Kp X.K H H' → HR X.K H' M' → ItOk X.K H' J2 J → R J M' → R2 J2 H')
noncomputable def dI (K : PySem.W.Frag) (ρ : En) (wi : TI3) : TI := fun σ H R2 => ∃ M R, wi ρ M R ∧ RhoR K σ H ρ ∧ HR K H M ∧ ∀ J J2 M' H', Kp K H H' → HR K H' M' → ItOk K H' J2 J → R J M' → R2 J2 H'
theorem HI.d {tg iter : Expr} {wi : TI3} {ρ : En} (h : HI X tg iter wi) : PI X tg iter (dI X.K ρ wi) := fun pins s σ H R I ⟨M, R3, q, b⟩ => h ρ M R3 q pins s σ H R I b
theorem PI.imp {tg iter : Expr} {w w' : TI} (h : PI X tg iter w) (f : ∀ σ H R, w' σ H R → w σ H R) : PI X tg iter w' := fun pins s σ H R I q => h pins s σ H R I (f σ H R q)
noncomputable def c0O (tl : TE3) : TI3 := fun ρ M R => tl ρ M fun x M1 => match x with
 | .tup ts => R ⟨ts, fun _ => True⟩ M1
 | .adr p => (match M1 p with | some (.lst ts) => R ⟨ts, fun M' => M' p = some (.lst ts)⟩ M1 | _ => False)
 | _ => False
theorem b6a {K : PySem.W.Frag} {H : Hp} {a : Addr} {xs : List V} {ts : List T} (h : SqT K H a xs) (r : Reps K H xs ts) : ItOk K H (Itt K a) ⟨ts, fun _ => True⟩ := by
 refine ⟨fun H' M' k hh _ => ⟨xs, k.tup _ _ h, by rw [r.length]; exact Nat.le_refl _⟩, fun i x H' M' e k hh _ => ?_⟩
 obtain ⟨v, e1, r1⟩ := r.get e
 refine ⟨⟨xs, v, k.tup _ _ h, e1⟩, fun v' H'' y => ?_⟩
 obtain ⟨rfl, y⟩ := y
 have := y xs (k.tup _ _ h)
 rw [e1] at this; cases this
 exact ⟨Kp.refl, hh, Rep.kp k _ _ r1⟩
theorem b6b {K : PySem.W.Frag} {H : Hp} {a : Addr} {ts : List T} : ItOk K H (Itl K a) ⟨ts, fun M' => M' a = some (.lst ts)⟩ := by
 refine ⟨fun H' M' k hh st => ?_, fun i x H' M' e k hh st => ?_⟩
 ·obtain ⟨xs, g1, g2⟩ := hh _ _ st
  exact ⟨xs, SqL.of g1, by rw [g2.length]; exact Nat.le_refl _⟩
 ·obtain ⟨xs, g1, g2⟩ := hh _ _ st
  obtain ⟨v, e1, r1⟩ := g2.get e
  refine ⟨⟨xs, v, SqL.of g1, e1⟩, fun v' H'' y => ?_⟩
  obtain ⟨rfl, y⟩ := y
  have := y xs (SqL.of g1)
  rw [e1] at this; cases this
  exact ⟨Kp.refl, hh, r1⟩
noncomputable def a0w (lo : Int) (n : Nat) : List T := (List.range n).map fun i => T.int (lo + (i : Nat))
theorem b2B {K : PySem.W.Frag} {H : Hp} {lo : Int} {n : Nat} : ItOk K H (Itr lo n) ⟨a0w lo n, fun _ => True⟩ := by
 have hl : (a0w lo n).length = n := by unfold a0w; simp
 refine ⟨fun H' M' k hh _ => by show n ≤ (a0w lo n).length; rw [hl]; exact Nat.le_refl _, fun i x H' M' e k hh _ => ?_⟩
 have hi : i < n := by have := (List.getElem?_eq_some_iff.mp e).1; rwa [hl] at this
 have ex : x = .int (lo + (i : Nat)) := by
  unfold a0w at e
  rw [List.getElem?_map, List.getElem?_range hi] at e
  exact (Option.some.inj e).symm
 subst ex
 refine ⟨hi, fun v H'' y => ?_⟩
 obtain ⟨rfl, rfl⟩ := y
 exact ⟨Kp.refl, hh, a0i⟩
theorem a3K {tg l : Expr} {tl : TE3} (hl : HE X l tl) : HI X tg l (c0O tl) := by
 intro ρ M R h pins s σ H R2 I b
 obtain ⟨hr, hh, en⟩ := b
 refine thn (hl ρ M _ h pins s σ H (fun v H1 => ∃ t M1, Kp X.K H H1 ∧ HR X.K H1 M1 ∧ Rep X.K H1 v t ∧ (match t with
  | .tup ts => R ⟨ts, fun _ => True⟩ M1
  | .adr p => (match M1 p with | some (.lst ts) => R ⟨ts, fun M' => M' p = some (.lst ts)⟩ M1 | _ => False)
  | _ => False)) I ⟨hr, hh, fun t v M1 H1 k1 h1 r1 q1 => ⟨t, M1, k1, h1, r1, q1⟩⟩) fun v s1 ⟨x, H1, I1, rv, t, M1, k1, h1, r1, q1⟩ => ?_
 split at q1
 ·rename_i ts
  obtain ⟨a, xs, rfl, g1, g2⟩ := a1l r1
  cases rv
  obtain ⟨its, rv, p, hz⟩ := I1.tuple g1
  refine wpAny_pyIter_tuple (show s1.heap.IsTuple a its.toArray from p) ?_
  refine ⟨s1.heap.objs.size, [s1.heap.objs.size], _, _, H1, rfl, I1.kept (t' := s1.toks) fun b o e => Heap.get?_push_of_some _ e, b2b a _, ⟨_, Heap.get?_push_size _ rfl, rfl, rfl⟩, fun b hb => ?_, en _ _ M1 H1 k1 h1 (b6a g1 g2) q1⟩
  have e : b = s1.heap.objs.size := by simpa using hb
  subst e
  exact I1.fpOk (Nat.le_refl _) (I1.hok.fresh (Nat.le_refl _))
 ·rename_i a
  obtain rfl := a0o r1
  cases rv
  split at q1
  ·rename_i ts e0
   obtain ⟨xs, g1, g2⟩ := h1 _ _ e0
   obtain ⟨its, rv, p, hz⟩ := I1.list (SqL.of g1)
   refine wpAny_pyIter_list p.isList ?_
   refine ⟨s1.heap.objs.size, [s1.heap.objs.size], _, _, H1, rfl, I1.kept (t' := s1.toks) fun b o e => Heap.get?_push_of_some _ e, b2X a _, ⟨_, Heap.get?_push_size _ rfl, rfl, rfl⟩, fun b hb => ?_, en _ _ M1 H1 k1 h1 b6b q1⟩
   have e : b = s1.heap.objs.size := by simpa using hb
   subst e
   exact I1.fpOk (Nat.le_refl _) (I1.hok.fresh (Nat.le_refl _))
  ·exact q1.elim
 ·exact q1.elim
noncomputable def b4a (t : TA3) : TI3 := fun ρ M R => t ρ M fun xs M1 => match xs with
 | [.int j] => -(2 ^ 62) ≤ j ∧ j < 2 ^ 62 ∧ R ⟨a0w 0 j.toNat, fun _ => True⟩ M1
 | _ => False
noncomputable def b8J (t : TA3) : TI3 := fun ρ M R => t ρ M fun xs M1 => match xs with
 | [.int i, .int j] => (-(2 ^ 62) ≤ i ∧ i < 2 ^ 62 ∧ -(2 ^ 62) ≤ j ∧ j < 2 ^ 62) ∧ R ⟨a0w i (j - i).toNat, fun _ => True⟩ M1
 | _ => False
theorem a5v {tg : Expr} {t : TA3} {p : Pos} (hm : X.mg "range" = none) (ha : HA X [a] t) (hg : Gl X "range" := by rfl) (hs : starEach [a] X.env = [(false, eval a X.env)] := by rfl) : HI X tg (.Call (.Name "range" p) [a] [] pos) (b4a t) := fun ρ M R h =>
 (b3z hg hm (ha.d (ρ := ρ)) hs).imp fun σ H R2 ⟨hr, hh, en⟩ => ⟨M, _, h, hr, hh, fun ts vs M1 H1 k1 h1 r1 q1 => by
  dsimp only at q1
  split at q1
  ·rename_i j
   obtain ⟨v, rfl, rv⟩ := a2r r1
   obtain rfl := a0n rv
   exact ⟨j, rfl, q1.1, q1.2.1, en _ _ M1 H1 k1 h1 b2B q1.2.2⟩
  ·exact q1.elim⟩
noncomputable def a6l (wi : TI3) (g : TG3) (tb : TS3) : TS3 := fun D ρ M => wi ρ M fun J M1 => ∃ W : Nat → En → MH → Prop, W 0 ρ M1 ∧ (∀ i ρ M, W i ρ M → J.stay M) ∧
 (∀ i x ρ M, J.items[i]? = some x → W i ρ M → g x ρ M fun ρ2 M2 => tb { D with nx := W (i + 1), ct := W (i + 1), bk := D.nx } ρ2 M2) ∧ ∀ ρ M, W J.items.length ρ M → D.nx ρ M
theorem a8C {tg iter : Expr} {wi : TI3} {g : TG3} {tb : TS3} (hp : PassesOwn (model X.prog X.w) X.A X.env X.xe) (hc : X.calm = true) (hi : HI X tg iter wi) (hg : HG X tg g) (hb : HSs X body tb)
  (hs : ∀ x, foldedSetIterable iter X.env x = pure x := by intro _; rfl) : HS X (.For tg iter body [] pos) (a6l wi g tb) := fun D ρ0 M0 h =>
 (c0o hp hc (hi.d (ρ := ρ0)) hg hb.d hs).imp fun D2 σ0 H0 ⟨hr0, hh0, en⟩ => ⟨M0, _, h, hr0, hh0, fun J J2 M1 H1 k1 h1 ok q1 => by
  obtain ⟨W, w0, wst, turn, fin⟩ := q1
  refine ⟨fun i m σ H => m = J.items.length - i ∧ i ≤ J.items.length ∧ Kp X.K H1 H ∧ ∃ ρ M, RhoR X.K σ H ρ ∧ HR X.K H M ∧ W i ρ M, ⟨_, rfl, Nat.zero_le _, Kp.refl, ρ0, M1, hr0.kp k1, h1, w0⟩, ?_⟩
  rintro i m σ H ⟨rfl, hi, kk, ρ, M, hr, hh, w⟩
  have st := wst i ρ M w
  by_cases hlt : i < J.items.length
  ·have e : J.items[i]? = some J.items[i] := List.getElem?_eq_getElem hlt
   obtain ⟨go, yl⟩ := ok.go i _ H M e kk hh st
   refine .inr ⟨go, fun σ' H' => i + 1 ≤ J.items.length ∧ Kp X.K H1 H' ∧ ∃ ρ M, RhoR X.K σ' H' ρ ∧ HR X.K H' M ∧ W (i + 1) ρ M, fun σ' H' ⟨a, b, c⟩ => ⟨_, by lia, rfl, a, b, c⟩, fun v H' y => ?_⟩
   obtain ⟨k2, h2, r2⟩ := yl v H' y
   refine ⟨J.items[i], ρ, M, _, turn i _ ρ M e w, r2, hr.kp k2, h2, fun ρ3 M3 σ3 H3 k3 hr3 hh3 q3 => ⟨_, ρ3, M3, q3, hr3, hh3, ?_⟩⟩
   have kall := kk.trans (k2.trans k3)
   refine ⟨fun ρ4 M4 σ4 H4 k4 hr4 hh4 q4 => ⟨hlt, kall.trans k4, ρ4, M4, hr4, hh4, q4⟩, fun t v M4 H4 k4 h4 r4 q4 => en.rt t v M4 H4 (k1.trans (kall.trans k4)) h4 r4 q4, fun ρ4 M4 σ4 H4 k4 hr4 hh4 q4 => en.nx ρ4 M4 σ4 H4 (k1.trans (kall.trans k4)) hr4 hh4 q4, fun ρ4 M4 σ4 H4 k4 hr4 hh4 q4 => ⟨hlt, kall.trans k4, ρ4, M4, hr4, hh4, q4⟩⟩
  ·have e : i = J.items.length := by lia
   subst e
   exact .inl ⟨ok.stop H M kk hh st, en.nx ρ M σ H (k1.trans kk) hr hh (fin ρ M w)⟩⟩
noncomputable def a7h (c : TT3) (tb : TS3) : TS3 := fun D ρ M => ∃ W : Nat → En → MH → Prop, (∃ m, W m ρ M) ∧ ∀ m ρ M, W m ρ M →
 c ρ M fun b M1 => if b = true then tb { D with nx := fun ρ' M' => ∃ m', m' < m ∧ W m' ρ' M', ct := fun ρ' M' => ∃ m', m' < m ∧ W m' ρ' M', bk := D.nx } ρ M1 else D.nx ρ M1
theorem b7G {c : Expr} {tc : TT3} {tb : TS3} (hp : PassesOwn (model X.prog X.w) X.A X.env X.xe) (hc : HT X c tc) (hb : HSs X body tb) : HS X (.While c body [] pos) (a7h tc tb) := by
 intro D ρ0 M0 h pins s σ H D2 I b
 obtain ⟨hr0, hh0, en⟩ := b
 obtain ⟨W, ⟨m0, w0⟩, turn⟩ := h
 refine wpAny_While (codeAny_whileLoop (fun n s' => ∃ σ' H' ρ M, Inv X pins σ' H' s' ∧ Kp X.K H H' ∧ RhoR X.K σ' H' ρ ∧ HR X.K H' M ∧ W n ρ M) ?_ m0 ⟨σ, H, ρ0, M0, I, Kp.refl, hr0, hh0, w0⟩)
 rintro n s1 ⟨σ1, H1, ρ, M, I1, k1, hr, hh, w1⟩
 refine wpAny_passesOwn hp (thn (hc ρ M _ (turn n ρ M w1) pins s1 σ1 H1 (fun b H2 => ∃ M2, Kp X.K H1 H2 ∧ HR X.K H2 M2 ∧ (if b = true then tb { D with nx := fun ρ' M' => ∃ m', m' < n ∧ W m' ρ' M', ct := fun ρ' M' => ∃ m', m' < n ∧ W m' ρ' M', bk := D.nx } ρ M2 else D.nx ρ M2)) I1 ⟨hr, hh, fun b M2 H2 k2 h2 q2 => ⟨M2, k2, h2, q2⟩⟩) fun b s2 ⟨H2, I2, M2, k2, h2, q2⟩ => ?_)
 have kk := k1.trans k2
 cases b with
 | true =>
   rw [if_pos rfl] at q2
   rw [if_pos rfl]
   refine wpAny_passesOwn hp (thn (hb _ ρ M2 q2 pins s2 σ1 H2 { nx := fun σ' H' => ∃ ρ' M', Kp X.K H2 H' ∧ RhoR X.K σ' H' ρ' ∧ HR X.K H' M' ∧ ∃ m', m' < n ∧ W m' ρ' M', rt := D2.rt, bk := D2.nx, ct := fun σ' H' => ∃ ρ' M', Kp X.K H2 H' ∧ RhoR X.K σ' H' ρ' ∧ HR X.K H' M' ∧ ∃ m', m' < n ∧ W m' ρ' M' } I2
    ⟨hr.kp k2, h2, ⟨fun ρ' M' σ' H' k r hh' q => ⟨ρ', M', k, r, hh', q⟩, en.rt.kp kk, fun ρ' M' σ' H' k r hh' q => en.nx ρ' M' σ' H' (kk.trans k) r hh' q, fun ρ' M' σ' H' k r hh' q => ⟨ρ', M', k, r, hh', q⟩⟩⟩) fun f s3 q3 => ?_)
   cases f with
   | next =>
     obtain ⟨σ3, H3, I3, ρ', M', k3, r3, h3, m', hm, w3⟩ := q3
     exact ⟨m', hm, σ3, H3, ρ', M', I3, kk.trans k3, r3, h3, w3⟩
   | cont =>
     obtain ⟨σ3, H3, I3, ρ', M', k3, r3, h3, m', hm, w3⟩ := q3
     exact ⟨m', hm, σ3, H3, ρ', M', I3, kk.trans k3, r3, h3, w3⟩
   | brk => exact q3
   | ret v => exact q3
 | false =>
   rw [if_neg Bool.false_ne_true] at q2
   rw [if_neg Bool.false_ne_true]
   exact wpAny_execs_nil ⟨σ1, H2, I2, en.nx ρ M2 σ1 H2 kk (hr.kp k2) h2 q2⟩
noncomputable def a7w (ix : List (Option Nat)) (ρ : En) : En := ix.map fun o => match o with | some j => (ρ[j]?).join | none => none
theorem b5u {K : PySem.W.Frag} {σ : St} {H : Hp} {ρ : En} (ix : List (Option Nat)) (h : RhoR K σ H ρ) : RhoR K (pick ix σ) H (a7w ix ρ) := by
 refine ⟨by unfold pick a7w; simp, fun i t e => ?_⟩
 unfold a7w at e
 unfold pick
 rw [List.getElem?_map] at e ⊢
 cases hx : ix[i]? with
 | none => rw [hx] at e; cases e
 | some o =>
   rw [hx] at e
   cases o with
   | none =>
     have e' : (none : Option T) = some t := Option.some.inj e
     cases e'
   | some j =>
     have e' : (ρ[j]?).join = some t := Option.some.inj e
     cases hj : ρ[j]? with
     | none => rw [hj] at e'; cases e'
     | some u =>
       rw [hj] at e'
       have e2 : u = some t := e'
       subst e2
       obtain ⟨v, a, b⟩ := h.2 j t hj
       exact ⟨v, by show some ((σ[j]?).join) = some (some v); rw [a] <;> rfl, b⟩
noncomputable def b0S (wi : TI3) (ix : List (Option Nat)) (g : TG3) (tt : TT3) (te : TE3) : TE3 := fun ρ M Q => wi ρ M fun J M1 => ∃ W : Nat → List T → MH → Prop, W 0 [] M1 ∧ (∀ i ys M, W i ys M → J.stay M) ∧ J.items.length < sizeLine ∧
 (∀ i x ys M, J.items[i]? = some x → W i ys M → g x (a7w ix ρ) M fun ρ2 M2 => tt ρ2 M2 fun ok M3 => if ok = true then te ρ2 M3 fun y M4 => W (i + 1) (ys ++ [y]) M4 else W (i + 1) ys M3) ∧
 ∀ ys M, W J.items.length ys M → ∀ p, M p = none → Q (.adr p) (updM M p (.lst ys))
noncomputable def HTs (X : Cx) (ifs : List Expr) (t : TT3) : Prop := ∀ ρ M Q, t ρ M Q → PTs X ifs (bT X.K ρ M Q)
noncomputable def b9E : TT3 := fun _ M Q => Q true M
theorem a2P : HTs X [] b9E := fun ρ M Q h pins s σ H Q2 I ⟨hr, hh, en⟩ => b8c pins s σ H Q2 I (en true M H Kp.refl hh h)
theorem b9B {c : Expr} {t : TT3} (h : HT X c t) : HTs X [c] t := fun ρ M Q q => b8b (h ρ M Q q)
end
noncomputable def dEx (K : PySem.W.Frag) (t : TE3) : TE := fun σ H Q2 => ∃ ρ M Q, t ρ M Q ∧ bE K ρ M Q σ H Q2
noncomputable def dTx (K : PySem.W.Frag) (t : TT3) : TT := fun σ H Q2 => ∃ ρ M Q, t ρ M Q ∧ bT K ρ M Q σ H Q2
section
variable {X : Cx} {e : Expr}
theorem HE.dx {t : TE3} (h : HE X e t) : PE X e (dEx X.K t) := fun pins s σ H Q I ⟨ρ, M, Q3, q, b⟩ => h ρ M Q3 q pins s σ H Q I b
theorem HTs.dx {ifs : List Expr} {t : TT3} (h : HTs X ifs t) : PTs X ifs (dTx X.K t) := fun pins s σ H Q I ⟨ρ, M, Q3, q, b⟩ => h ρ M Q3 q pins s σ H Q I b
structure BTg (K : PySem.W.Frag) (ix : List (Option Nat)) (g2 : TG) (g3 : TG3) : Prop where
 own : Own ix g2
 br : ∀ (t : T) (v : V) (ρ : En) (M : MH) (σ : St) (H : Hp) (Q3 : En → MH → Prop) (Q2 : St → Hp → Prop), Rep K H v t → RhoR K σ H ρ → HR K H M → g3 t ρ M Q3 → EndG K H Q3 Q2 → g2 v σ H Q2
theorem a2c {K : PySem.W.Frag} {ix : List (Option Nat)} {i : Nat} (h : ix[i]? = some none := by rfl) : BTg K ix (a9i i) (a9h i) :=
 ⟨a7y h, fun t v ρ M σ H Q3 Q2 r hr hh q en => en _ M _ H Kp.refl (hr.set i r) hh q⟩
theorem b8X {K : PySem.W.Frag} {ix : List (Option Nat)} {i j : Nat} (h : ix[i]? = some none := by rfl) (h' : ix[j]? = some none := by rfl) : BTg K ix (gTup K 2 (b6n (a9i i) (b6n (a9i j) gNil))) (b4n 2 (a9k (a9h i) (a9k (a9h j) b8N))) := by
 refine ⟨b8p (a8H a6S (a7y h) (a8H a6S (a7y h') b5K)), fun t v ρ M σ H Q3 Q2 r hr hh q en => ?_⟩
 unfold b4n at q
 split at q
 ·rename_i ts
  obtain ⟨a, xs, rfl, g1, g2⟩ := a1l r
  obtain ⟨hl, q⟩ := q
  match ts, hl, g2, q with
  | [x, y], _, g2, q =>
    obtain ⟨v1, v2, rfl, r1, r2⟩ := b7L g2
    refine ⟨a, _, rfl, g1, rfl, v1, [v2], rfl, v2, [], rfl, rfl, ?_⟩
    exact en _ M _ H Kp.refl ((hr.set i r1).set j r2) hh q.2
 ·exact q.elim
variable {elt iter tg : Expr} {ifs : List Expr} {pos : Pos} {scope : Scope} {N' : List Str} {ix : List (Option Nat)} {wi : TI3} {g2 : TG} {g3 : TG3} {tt : TT3} {te : TE3}
theorem b1J {X : Cx} {N' : List Str} {ix : List (Option Nat)} {wi : TI3} {g2 : TG} {g3 : TG3} {tt : TT3} {te : TE3} (bt : BTg X.K ix g2 g3) (ρ0 : En) (M0 : MH) (Q : VK3) (h : b0S wi ix g3 tt te ρ0 M0 Q) (σ0 : St) (H0 : Hp) (Q2 : VK) (bb : bE X.K ρ0 M0 Q σ0 H0 Q2) :
  b5m (dI X.K ρ0 wi) ix g2 (dTx X.K tt) (dEx X.K te) σ0 H0 Q2 := by
 obtain ⟨hr0, hh0, en⟩ := bb
 exact ⟨M0, _, h, hr0, hh0, fun J J2 M1 H1 k1 h1 ok q1 => by
  obtain ⟨W, w0, wst, hsz, turn, fin⟩ := q1
  refine ⟨fun i m ys H => m = J.items.length - i ∧ i ≤ J.items.length ∧ ys.length ≤ i ∧ Kp X.K H1 H ∧ ∃ ts M, Reps X.K H ys ts ∧ HR X.K H M ∧ W i ts M, ⟨_, rfl, Nat.zero_le _, Nat.zero_le _, Kp.refl, [], M1, .nil, h1, w0⟩, ?_⟩
  rintro i m ys H ⟨rfl, hi, hy, kk, ts, M, rts, hh, w⟩
  have st := wst i ts M w
  by_cases hlt : i < J.items.length
  ·have e : J.items[i]? = some J.items[i] := List.getElem?_eq_getElem hlt
   obtain ⟨go, yl⟩ := ok.go i _ H M e kk hh st
   refine .inr ⟨go, by lia, fun v H' y => ?_⟩
   obtain ⟨k2, h2, r2⟩ := yl v H' y
   have kk2 := kk.trans k2
   refine bt.br J.items[i] v _ M _ H' _ _ r2 (b5u ix (hr0.kp (k1.trans kk2))) h2 (turn i _ ts M e w) fun ρ3 M3 σ3 H3 k3 hr3 hh3 q3 => ⟨ρ3, M3, _, q3, hr3, hh3, fun b M4 H4 k4 h4 q4 => ?_⟩
   have kk4 := kk2.trans (k3.trans k4)
   dsimp only at q4 ⊢
   cases b with
   | true =>
     rw [if_pos rfl] at q4 ⊢
     refine ⟨ρ3, M4, _, q4, hr3.kp k4, h4, fun t5 v5 M5 H5 k5 h5 r5 q5 => ⟨_, Nat.sub_lt_sub_left hlt (Nat.lt_succ_self i), rfl, hlt, ?_, kk4.trans k5, ts ++ [t5], M5, ?_, h5, q5⟩⟩
     ·rw [List.length_append, List.length_singleton]; lia
     ·exact (Reps.kp (k2.trans (k3.trans (k4.trans k5))) _ _ rts).append (.cons r5 .nil)
   | false =>
     rw [if_neg Bool.false_ne_true] at q4 ⊢
     exact ⟨_, Nat.sub_lt_sub_left hlt (Nat.lt_succ_self i), rfl, hlt, by lia, kk4, ts, M4, Reps.kp (k2.trans (k3.trans k4)) _ _ rts, h4, q4⟩
  ·have e : i = J.items.length := by lia
   subst e
   refine .inl ⟨ok.stop H M kk hh st, by lia, fun p hp => ?_⟩
   exact en _ _ _ _ (k1.trans (kk.trans (Kp.new hp))) (hh.newL hp rts) a2y (fin ts M w p (hh.free hp))⟩
theorem a3v (hc : X.calm = true) (hi : HI X tg iter wi) (S : BlkScope X N' ix scope) (bt : BTg X.K ix g2 g3) (hg : ∀ C s H fp pins, PG (blk X N' scope C s H fp pins) tg g2)
  (ht : ∀ C s H fp pins, HTs (blk X N' scope C s H fp pins) ifs tt) (he : ∀ C s H fp pins, HE (blk X N' scope C s H fp pins) elt te)
  (hs : ∀ x, foldedSetIterable iter X.env x = pure x := by intro _; rfl) :
  HE X (.ListComp elt [⟨tg, iter, ifs, 0⟩] scope pos) (b0S wi ix g3 tt te) := fun ρ0 M0 Q h =>
 (b8l (tt := dTx X.K tt) (te := dEx X.K te) hc (hi.d (ρ := ρ0)) S bt.own hg (fun C s H fp pins => (ht C s H fp pins).dx) (fun C s H fp pins => (he C s H fp pins).dx) hs).imp fun σ0 H0 Q2 bb => b1J (X := X) (N' := N') bt ρ0 M0 Q h σ0 H0 Q2 bb
theorem b3m {i : Nat} {x : Str} {pos' spos : Pos} (hc : X.calm = true) (hi : HI X tg iter wi) (S : BlkScope X N' ix scope) (bt : BTg X.K ix g2 g3) (hg : ∀ C s H fp pins, PG (blk X N' scope C s H fp pins) tg g2)
  (ht : ∀ C s H fp pins, HTs (blk X N' scope C s H fp pins) ifs tt) (he : ∀ C s H fp pins, HE (blk X N' scope C s H fp pins) elt te) (hN : X.N.Nodup) (hi' : X.N[i]? = some x := by rfl) (hx : Loc X.env.scope x := by first | exact Or.inl rfl | exact Or.inr rfl)
  (hsw : swapsWith (.ListComp elt [⟨tg, iter, ifs, 0⟩] scope pos) (some (.Name x pos')) spos.line X.env = pure true := by rfl)
  (hs : ∀ x, foldedSetIterable iter X.env x = pure x := by intro _; rfl) (hf : X.fn x = true ∨ X.env.scope.names.lookup x = some .local := by first | exact .inl rfl | exact .inr rfl | assumption) :
  HS X (.Assign [.Name x pos'] (.ListComp elt [⟨tg, iter, ifs, 0⟩] scope pos) spos) (b7w i (b0S wi ix g3 tt te)) := fun D ρ M h =>
 (b8g (tt := dTx X.K tt) (te := dEx X.K te) hN hi' hx hc (hi.d (ρ := ρ)) S bt.own hg (fun C s H fp pins => (ht C s H fp pins).dx) (fun C s H fp pins => (he C s H fp pins).dx) hsw hs hf).imp fun D2 σ H ⟨hr, hh, en⟩ =>
  b1J (X := X) (N' := N') bt ρ M (fun x M1 => D.nx (ρ.set i (some x)) M1) h σ H _ ⟨hr, hh, fun t v M1 H1 k1 h1 r1 q1 => en.nx _ M1 _ H1 k1 ((hr.kp k1).set i r1) h1 q1⟩
noncomputable def a3h (N : List Str) (ts : List T) : En := ts.map some ++ List.replicate (N.length - ts.length) none
theorem b3n {K : PySem.W.Frag} {H : Hp} {N : List Str} {vs : List V} {ts : List T} (r : Reps K H vs ts) : RhoR K (start N vs) H (a3h N ts) := by
 have hl := r.length
 refine ⟨by unfold start a3h; simp [hl], fun i t e => ?_⟩
 unfold a3h at e
 unfold start
 by_cases hi : i < ts.length
 ·rw [List.getElem?_append_left (by simpa using hi), List.getElem?_map] at e
  cases q : ts[i]? with
  | none => rw [q] at e; cases e
  | some u =>
    rw [q] at e
    cases e
    obtain ⟨v, a, b⟩ := r.get q
    refine ⟨v, ?_, b⟩
    rw [List.getElem?_append_left (by simpa [hl] using hi), List.getElem?_map, a]
    rfl
 ·rw [List.getElem?_append_right (by simpa using hi), List.getElem?_replicate] at e
  split at e <;> cases e
noncomputable def rt3 (M : MH) (Q : VK3) : VK3 := fun t M' => ∃ M0, Sub M0 M' ∧ Q t M0
end
section
variable {P : Program} {w : World} {K : PySem.W.Frag} {mg : Str → Option Value} {base : Heap}
theorem Fun.fnk {x qual : Str} {st : Stmt} {f : Addr} {fd : FuncData} {N ps : List Str} {n : Nat} {sp : Sp3} (F : Fun K x qual st f fd) (S : FnScope N ps (a0b st)) (len : ∀ ts M Q, sp ts M Q → ts.length = ps.length)
  (hbody : ∃ t : TS3, (∀ (cdv : Value) (A : Around) (outer : List Env) (s : Shared) (H : Hp) (E : XK), Room n (A.deeper (envOfC qual (a0b st) s.heap.objs.size f cdv)) →
   HSs (cxOf CX0 P w K mg base N qual (a0b st) f cdv A outer s H E).nox (a0q st) t) ∧
   ∀ ts M Q, sp ts M Q → t { nx := fun _ M' => rt3 M Q .non M', rt := rt3 M Q } (a3h N ts) M) : FnOk P w K mg base CX0 (n + 1) f fd ps (dSp K sp) := by
 obtain ⟨t, hbody, rd⟩ := hbody
 refine F.ok S (fun vs H Q E ⟨ts, M, Q3, r, _, q, _⟩ => by rw [r.length]; exact len _ _ _ q) (fun cdv A outer s H vs Q E hr ⟨ts, M, Q3, r, hh, q, en⟩ => ?_)
 refine ⟨_, hbody cdv A outer s H E hr _ _ _ (rd ts M Q3 q), b3n r, hh, ⟨?_, ?_, fun _ _ _ _ _ _ _ z => z.elim, fun _ _ _ _ _ _ _ z => z.elim⟩⟩
 ·rintro ρ' M' σ' H' k hr' hh' ⟨M0, hs, q'⟩
  exact en .non .non M0 H' k (hh'.sub hs) b3o q'
 ·rintro t' v' M' H' k hh' r' ⟨M0, hs, q'⟩
  exact en t' v' M0 H' k (hh'.sub hs) r' q'
theorem Fun.dfn {x qual : Str} {st : Stmt} {f : Addr} {fd : FuncData} {N ps : List Str} {n : Nat} {sp : Sp3} (F : Fun K x qual st f fd) (hm : mg x = some (.ref f)) (hb : a1K K fd ps []) (S : FnScope N ps (a0b st)) (len : ∀ ts M Q, sp ts M Q → ts.length = ps.length)
  (hbody : ∃ t : TS3, (∀ (cdv : Value) (A : Around) (outer : List Env) (s : Shared) (H : Hp) (E : XK), Room n (A.deeper (envOfC qual (a0b st) s.heap.objs.size f cdv)) →
   HSs (cxOf CX0 P w K mg base N qual (a0b st) f cdv A outer s H E).nox (a0q st) t) ∧
   ∀ ts M Q, sp ts M Q → t { nx := fun _ M' => rt3 M Q .non M', rt := rt3 M Q } (a3h N ts) M) : Df P w K mg base (n + 1) x ps sp :=
 ⟨f, fd, F.fnk S len hbody, hm, F.kp, hb⟩
end
theorem b5U {l : PySem.W.OpenLaw} {k : Nat} {q : Program} {loose : List Str} {XP : (Str → Option Value) → Heap → Prop} {YP : World → Heap → Prop} {d : DefRec} {K : Params → PySem.W.Frag} {sp : Sp3}
  (hn : l.most = some 63) (hdf : d.params.defaults = []) (hr : Room k callerA) (hY : ∀ (w : World) (h : Heap), YP w h → (K w.params).In h)
  (hs : ∀ (ns : List Int) M Q, ns.length ≤ 63 → Q (.bl true) M → sp [.rd (ns.map .int)] M Q)
  (F : ∀ (w : World) (mg : Str → Option Value) (fa : Addr) (h : Heap), (K w.params).In h → h.Ns mainGlobals mg → mg d.name = some (.ref fa) →
   ∃ fd : FuncData, (∀ (s : Shared) (u : Value), BindsTo s fd ⟨[u], []⟩ [("script", u)]) ∧ ∀ base : Heap, (K w.params).In base → base.Ns mainGlobals mg → FnOk l.prog w (K w.params) mg base CX0 k fa fd ["script"] (dSp (K w.params) sp)) :
  PySem.W.WalkO q loose XP YP l.row.toRowW d [] (fun f vs => PySem.call f vs) := by
 refine L2.b7q (n := 63) (k := k) (x := "script") (CX := fun _ => CX0) (sp := fun w => dSp (K w.params) sp) hn (by decide) hdf hr hY F (fun w H a ns hl hO hS => ?_) fun _ _ _ _ _ z => z
 have fz : FzL (K w.params) H a (ns.map V.int) := by
  rcases hS with (h | ⟨o, h⟩) | h
  ·rcases hO a with z | ⟨ob, xs, z⟩
   ·rw [h] at z; cases z
   ·rw [h] at z; cases z
  ·exact .inl ⟨o, h⟩
  ·exact .inr h
 refine ⟨[.rd (ns.map .int)], fun _ => none, fun t _ => t = .bl true, .cons ?_ .nil, (fun _ _ z => by cases z), hs ns _ (fun t _ => t = .bl true) hl rfl, fun t v M' H' _ _ r e => ?_⟩
 ·unfold Rep
  exact ⟨a, _, rfl, fz, Reps.of_ints ns⟩
 ·subst e
  exact a5e r
theorem a2W : ∀ {xs : List V} {us : List Value}, xs.length = us.length → (∀ (j : Nat) x, xs[j]? = some x → ∃ u, us[j]? = some u ∧ RelV x u) → Vals xs us
 | [], [], _, _ => .nil
 | [], _ :: _, h, _ => by simp at h
 | _ :: _, [], h, _ => by simp at h
 | x :: xs, u :: us, h, g => by
   refine .cons ?_ (a2W (by simpa using h) fun j y e => ?_)
   ·obtain ⟨w, e, r⟩ := g 0 x rfl
    have : u = w := by simpa using e
    subst this; exact r
   ·obtain ⟨w, e', r⟩ := g (j + 1) y (by simpa using e)
    exact ⟨w, by simpa using e', r⟩
noncomputable def a1b (lo : Int) (n : Nat) : List V := (List.range n).map fun i => V.int (lo + (i : Nat))
theorem a3S {K : PySem.W.Frag} {H : Hp} (lo : Int) (n : Nat) : Reps K H (a1b lo n) (a0w lo n) := by
 have e1 : a1b lo n = ((List.range n).map fun i => lo + ((i : Nat) : Int)).map V.int := by unfold a1b; rw [List.map_map]; rfl
 have e2 : a0w lo n = ((List.range n).map fun i => lo + ((i : Nat) : Int)).map T.int := by unfold a0w; rw [List.map_map]; rfl
 rw [e1, e2]; exact Reps.of_ints _
section
variable {X : Cx} {a b e : Expr} {es : List Expr} {ta te : TE3} {t : TA3} {pos : Pos}
noncomputable def b6L (t : TA3) : TE3 := fun ρ M Q => t ρ M fun xs M1 => match xs with
 | [.int j] => (-(2 ^ 62) ≤ j ∧ j < 2 ^ 24) ∧ ∀ p, M1 p = none → Q (.adr p) (updM M1 p (.lst (a0w 0 j.toNat)))
 | _ => False
theorem a9c {t : TA3} {p p' pos' : Pos} (hm : X.mg "list" = none) (hm' : X.mg "range" = none) (ha : HA X [a] t) (hc : X.calm = true := by rfl) (hg : Gl X "list" := by rfl) (hg' : Gl X "range" := by rfl) (hs : starEach [a] X.env = [(false, eval a X.env)] := by rfl)
  (he : starEach [.Call (.Name "range" p') [a] [] pos'] X.env = (false, eval (.Call (.Name "range" p') [a] [] pos') X.env) :: starEach [] X.env := by rfl) :
  HE X (.Call (.Name "list" p) [.Call (.Name "range" p') [a] [] pos'] [] pos) (b6L t) := by
 intro ρ M Q h pins s σ H Q2 I bb
 obtain ⟨hr, hh, en⟩ := bb
 refine wpAny_Call_Name_kw (a3j I hg hm boot_list ?_ (by decide) (by decide))
 refine PyProof.Rows.callWith_type1 ?_ he rfl
 rw [he]
 refine Calls.spliced_cons ?_
 refine Call_ (a3j I hg' hm' boot_range (PyProof.Rows.callWith_type1 (thn (ha ρ M _ h pos' pins s σ H (fun vs H1 => ∃ j M1, vs = [V.int j] ∧ HR X.K H1 M1 ∧ Kp X.K H H1 ∧ (-(2 ^ 62) ≤ j ∧ j < 2 ^ 24) ∧ ∀ p, M1 p = none → Q (.adr p) (updM M1 p (.lst (a0w 0 j.toNat)))) I
  ⟨hr, hh, fun ts vs M1 H1 k1 h1 r1 q1 => by
   dsimp only at q1
   split at q1
   ·rename_i j
    obtain ⟨v, rfl, rv⟩ := a2r r1
    obtain rfl := a0n rv
    exact ⟨j, M1, rfl, h1, k1, q1.1, q1.2⟩
   ·exact q1.elim⟩) fun us s1 ⟨vs, H1, I1, rv, j, M1, e1, h1, k1, hj, q1⟩ => ?_) hs rfl))
 subst e1
 obtain ⟨u, rfl, t', rfl⟩ := a3n rv
 refine call_range_1 (Calls.spliced_nil ?_)
 have I2 : Inv X pins σ H1 { s1 with heap := s1.heap.push { cls := .type "range", data := .fields #[.int 0 s1.toks, .int j t', .int 1 (s1.toks + 1)] }, toks := s1.toks + 2 } := I1.kept fun b o e => Heap.get?_push_of_some _ e
 have hn : Builtin.Range.rangeSize 0 j 1 = ((j.toNat : Nat) : Int) := by rw [rangeSize_one]; split <;> lia
 refine call_list_range (I1.ok.hd hc) (IsRange.new ..) (small_one (by lia) (by lia) (by lia) (by lia)) hn (by lia) fun h' tk acc' c' kp e ito => ?_
 have hz : j.toNat ≤ sizeLine := by rw [sizeLine_eq]; lia
 have vr : Vals (a1b 0 j.toNat) acc'.toList := by
  refine a2W (by unfold a1b; simp [ito.1]) fun i x ex => ?_
  have hi : i < j.toNat := by have := (List.getElem?_eq_some_iff.mp ex).1; simpa [a1b] using this
  have hi' : i < acc'.size := by rw [ito.1]; exact hi
  have ea : acc'[i]? = some acc'[i] := Array.getElem?_eq_getElem hi'
  obtain ⟨tt, et⟩ := ito.2 i _ ea
  refine ⟨acc'[i], by rw [Array.getElem?_toList]; exact ea, ?_⟩
  unfold a1b at ex
  rw [List.getElem?_map, List.getElem?_range hi] at ex
  have := Option.some.inj ex
  subst this
  exact ⟨tt, by rw [et, Int.mul_one]⟩
 have I3 := I2.laid (a := { s1 with heap := s1.heap.push { cls := .type "range", data := .fields #[.int 0 s1.toks, .int j t', .int 1 (s1.toks + 1)] }, toks := s1.toks + 2 }.heap.objs.size) (o := .lst (a1b 0 j.toNat)) (t' := tk) kp (Nat.le_refl _)
  (show a1P X.prog X.w _ h' _ (.lst (a1b 0 j.toNat)) from ⟨by unfold a1b; simpa using hz, acc'.toList, c', vr, by simpa using e⟩)
 have hf := I2.hok.fresh (Nat.le_refl _)
 exact ⟨.ref _, _, I3, rfl, en _ _ _ _ (k1.trans (Kp.new hf)) (h1.newL hf (a3S 0 j.toNat)) a2y (q1 _ (h1.free hf))⟩
noncomputable def b6c (M : MH) (x : T) : Prop := match x with
 | .adr p => (match M p with | some (.lst _) => True | _ => False)
 | _ => False
noncomputable abbrev RM3 := T → List T → MH → VK3 → Prop
noncomputable def dM (K : PySem.W.Frag) (r : RM3) : V → List V → Hp → VK → Prop := fun v vs H Q2 => ∃ x xs M Q, Rep K H v x ∧ Reps K H vs xs ∧ HR K H M ∧ r x xs M Q ∧ EndE K H Q Q2
noncomputable def MtR3 (X : Cx) (id : String) (r : RM3) : Prop := MtR X id (dM X.K r)
noncomputable def tLM3 (r : RM3) (to : TE3) (t : TA3) : TE3 := fun ρ M Q => to ρ M fun x M1 => b6c M1 x ∧ t ρ M1 fun xs M2 => r x xs M2 Q
theorem b1s {K : PySem.W.Frag} {H : Hp} {M : MH} {x : T} {v : V} (hh : HR K H M) (r : Rep K H v x) (h : b6c M x) : tyV K "list" v H := by
 unfold b6c at h
 split at h
 ·rename_i p
  split at h
  ·rename_i ts e
   obtain ⟨xs, g1, _⟩ := hh _ _ e
   obtain rfl := a0o r
   exact .inl ⟨rfl, xs, SqL.of g1⟩
  ·exact h.elim
 ·exact h.elim
theorem h_lm {o : Expr} {to : TE3} {name : Str} {apos cpos : Pos} {id : String} {r : RM3} (slot : Slot "list" name id) (hty : typeOf (.builtin id) = pure (.type "method_descriptor")) (hm : MtR3 X id r) (ho : HE X o to) (ha : HA X (e :: es) t)
  (hbase : attributeBase o name X.env (eval o X.env) = eval o X.env := by rfl)
  (hfew : ((backTo cpos (starEach (e :: es) X.env)).all (fun x => !x.1) && (backToKw cpos (keywordEach [] X.env)).all (fun x => x.1.isSome)
   && decide ((e :: es).length + ([] : List Keyword).length + (if ([] : List Keyword).isEmpty then 0 else 1) < 30)) = true := by rfl)
  (hline : (apos.endLine == cpos.line) = true := by rfl) (hs : starEach (e :: es) X.env = (false, eval e X.env) :: starEach es X.env := by rfl) (hplain : (backTo cpos (starEach es X.env)).any (·.1) = false := by rfl) :
  HE X (.Call (.Attribute o name apos) (e :: es) [] cpos) (tLM3 r to t) := fun ρ M Q h =>
 (c1N PySem.F.plainAttrs_list slot hty hm (ho.d (ρ := ρ)) (ha.d (ρ := ρ)) hbase hfew hline hs hplain).imp fun σ H Q2 ⟨hr, hh, en⟩ => ⟨M, _, h, hr, hh, fun x v M1 H1 k1 h1 r1 q1 => ⟨b1s h1 r1 q1.1, M1, _, q1.2, hr.kp k1, h1, fun ts vs M2 H2 k2 h2 r2 q2 =>
  ⟨x, ts, M2, Q, Rep.kp k2 _ _ r1, r2, h2, q2, en.kp (k1.trans k2)⟩⟩⟩
noncomputable def b5z : RM3 := fun x xs M Q => match x, xs with
 | .adr p, [y] => (match M p with | some (.lst ts) => ts.length < sizeLine ∧ Q .non (updM M p (.lst (ts ++ [y]))) | _ => False)
 | _, _ => False
theorem b2w : MtR3 X "list.append" b5z := by
 intro pins s σ H v vs u us Q2 I rv rvs h
 obtain ⟨x, xs, M, Q, r1, r2, hh, q, en⟩ := h
 unfold b5z at q
 split at q
 ·rename_i p y
  split at q
  ·rename_i ts e0
   obtain ⟨ys, g1, g2⟩ := hh _ _ e0
   obtain rfl := a0o r1
   obtain ⟨w, rfl, rw'⟩ := a2r r2
   exact b3L pins s σ H _ _ u us Q2 I rv rvs ⟨_, ys, w, rfl, rfl, g1, by rw [g2.length]; exact q.1, en _ _ _ _ (Kp.lst g1) (hh.setL g1 (g2.append (.cons rw' .nil))) b3o q.2⟩
  ·exact q.elim
 ·exact q.elim
noncomputable def a5n : List T → Option (List Int)
 | [] => some []
 | .int i :: ts => (a5n ts).map (i :: ·)
 | _ :: _ => none
theorem a4o : ∀ (ns : List Int), a5n (ns.map T.int) = some ns
 | [] => rfl
 | n :: ns => by show (a5n (ns.map T.int)).map (n :: ·) = _; rw [a4o ns]; rfl
theorem a3G : ∀ {ts : List T} {ns : List Int}, a5n ts = some ns → ts = ns.map T.int
 | [], ns, e => by unfold a5n at e; cases e; rfl
 | t :: ts, ns, e => by
   cases t with
   | int i =>
     unfold a5n at e
     cases q : a5n ts with
     | none => rw [q] at e; cases e
     | some cs => rw [q] at e; cases e; rw [a3G q]; rfl
   | _ => unfold a5n at e; cases e
noncomputable def a7u : RM3 := fun x xs M Q => match x, xs with
 | .adr p, [.int k] => (match M p with
   | some (.lst ts) => (match a5n ts with | some ns => k ∈ ns ∧ Q (.int (ns.idxOf k)) M | none => False)
   | _ => False)
 | _, _ => False
theorem b3M : MtR3 X "list.index" a7u := by
 intro pins s σ H v vs u us Q2 I rv rvs h
 obtain ⟨x, xs, M, Q, r1, r2, hh, q, en⟩ := h
 unfold a7u at q
 split at q
 ·rename_i p k
  split at q
  ·rename_i ts e0
   obtain ⟨ys, g1, g2⟩ := hh _ _ e0
   obtain rfl := a0o r1
   obtain ⟨w, rfl, rw'⟩ := a2r r2
   obtain rfl := a0n rw'
   split at q
   ·rename_i ns en'
    have et := a3G en'
    subst et
    obtain rfl := g2.ints
    cases rv
    obtain ⟨w', rfl, tk, rfl⟩ := a3n rvs
    obtain ⟨its, r', pl, hz⟩ := I.list (SqL.of g1)
    have hl := r'.length
    rw [List.length_map] at hl hz
    obtain ⟨o, n, eo, ec, edd, ed⟩ := id pl
    obtain ⟨cls, dd, data, sl⟩ := o
    simp only at ec edd ed
    subst ec edd ed
    have hk : ns.idxOf k < ns.length := List.idxOf_lt_length_iff.mpr q.1
    have item : ∀ (j : Nat) (hj : j < its.toArray.size), ∃ tk', its.toArray[j] = Value.int (ns[j]'(by rw [List.size_toArray, ← hl] at hj; exact hj)) tk' := fun j hj => by
     have hj' : j < ns.length := by rw [List.size_toArray, ← hl] at hj; exact hj
     obtain ⟨w2, e2, tk', rfl⟩ := r'.get (i := j) (x := V.int ns[j]) (by rw [List.getElem?_map, List.getElem?_eq_getElem hj'] <;> rfl)
     have : its[j]? = some its.toArray[j] := by rw [List.getElem?_eq_getElem (by rw [List.size_toArray] at hj; exact hj)] <;> simp
     rw [e2] at this
     exact ⟨tk', (Option.some.inj this).symm⟩
    let ee : Value → Bool := fun v => match v with | .int i _ => i == k | _ => false
    have hsz := sizeLine_eq
    refine call_meets PySem.F.slot_list_index ⟨_, eo, rfl⟩ PySem.F.entry_list_index (PySem.F.args_list_index_2 _ _)
     (SeqAt.list_indexAt p its.toArray n none sl (.int k tk) ee (ns.idxOf k) (by rw [List.size_toArray, ← hl]; exact hk) (by lia) ?_ ?_) ⟨eo, fun y hy => ?_, ?_⟩
    ·obtain ⟨tk', e⟩ := item (ns.idxOf k) (by rw [List.size_toArray, ← hl]; exact hk)
     rw [e]
     show (ns[ns.idxOf k] == k) = true
     simp
    ·intro m hm hlt
     obtain ⟨tk', e⟩ := item m hm
     rw [e]
     show (ns[m]'_ == k) = false
     have := List.not_of_lt_findIdx (p := (· == k)) (xs := ns) (i := m) (by simpa [List.idxOf] using hlt)
     simpa using this
    ·obtain ⟨j, hj, rfl⟩ := Array.getElem_of_mem hy
     obtain ⟨tk', e⟩ := item j hj
     rw [e]
     exact SeqAt.EqAt.int_int _ _ _ _
    ·exact ⟨.int (ns.idxOf k), H, I.tok _, ⟨_, rfl⟩, en _ _ M H Kp.refl hh a0i q.2⟩
   ·exact q.elim
  ·exact q.elim
 ·exact q.elim
theorem a6R {o : Expr} {to : TE3} {apos cpos : Pos} (ho : HE X o to) (ha : HA X (e :: es) t)
  (hbase : attributeBase o "append" X.env (eval o X.env) = eval o X.env := by rfl)
  (hfew : ((backTo cpos (starEach (e :: es) X.env)).all (fun x => !x.1) && (backToKw cpos (keywordEach [] X.env)).all (fun x => x.1.isSome)
   && decide ((e :: es).length + ([] : List Keyword).length + (if ([] : List Keyword).isEmpty then 0 else 1) < 30)) = true := by rfl)
  (hline : (apos.endLine == cpos.line) = true := by rfl) (hs : starEach (e :: es) X.env = (false, eval e X.env) :: starEach es X.env := by rfl) (hplain : (backTo cpos (starEach es X.env)).any (·.1) = false := by rfl) :
  HE X (.Call (.Attribute o "append" apos) (e :: es) [] cpos) (tLM3 b5z to t) := h_lm PySem.F.slot_list_append PySem.F.type_list_append b2w ho ha hbase hfew hline hs hplain
end
end L2
namespace LM
noncomputable def LetOK (n l : Int) : Prop := 1 ≤ (l.natAbs : Int) ∧ (l.natAbs : Int) < n
noncomputable def WordOK (n : Int) (w : List Int) : Prop := ∀ l ∈ w, LetOK n l
noncomputable def a6t (n l : Int) : Bool := decide (1 ≤ l.natAbs) && decide ((l.natAbs : Int) < n)
noncomputable def isPl (n : Int) (w : List Int) : Bool := decide (1 ≤ n) && decide (n ≤ 6) && decide (w.length ≤ 16) && w.all (a6t n)
noncomputable def PlOK (n : Int) (w : List Int) : Prop := 1 ≤ n ∧ n ≤ 6 ∧ w.length ≤ 16 ∧ WordOK n w
theorem a4n {n l : Int} : a6t n l = true ↔ LetOK n l := by
 unfold a6t LetOK
 simp only [Bool.and_eq_true, decide_eq_true_eq]
 lia
theorem PlOK.is {n : Int} {w : List Int} (h : PlOK n w) : isPl n w = true := by
 obtain ⟨h1, h2, h3, h4⟩ := h
 unfold isPl
 simp only [Bool.and_eq_true, decide_eq_true_eq, List.all_eq_true]
 exact ⟨⟨⟨h1, h2⟩, h3⟩, fun l hl => a4n.mpr (h4 l hl)⟩
theorem WordOK.nil {n : Int} : WordOK n [] := fun _ z => nomatch z
theorem WordOK.append {n : Int} {u v : List Int} (h : WordOK n u) (g : WordOK n v) : WordOK n (u ++ v) := fun l hl => (List.mem_append.mp hl).elim (h l) (g l)
theorem a1p {α β : Type} (f : α → β) {L : List α} {i : Nat} {x : α} (h : L[i]? = some x) : (L.take i).map f ++ [f x] = (L.take (i + 1)).map f := by
 rw [List.take_add_one, h]; simp
theorem a0W {α β : Type} {f : α → β} {L : List α} {i : Nat} {y : β} (h : (L.map f)[i]? = some y) : ∃ x, L[i]? = some x ∧ f x = y := by
 rw [List.getElem?_map] at h
 cases q : L[i]? with
 | none => rw [q] at h; cases h
 | some x => rw [q] at h; exact ⟨x, rfl, Option.some.inj h⟩
noncomputable def a3R (st : List Int) (l : Int) : List Int := (st.set (l.natAbs - 1) (st.getD l.natAbs 0)).set l.natAbs (st.getD (l.natAbs - 1) 0)
noncomputable def a0g (n : Int) : List Int := (List.range n.toNat).map fun i => ((i : Nat) : Int)
noncomputable def a2D (n : Int) (w : List Int) : List Int := w.foldl a3R (a0g n)
noncomputable def a1B (n : Int) (w : List Int) : List Int := (a0g n).map fun s => (((a2D n w).idxOf s : Nat) : Int)
noncomputable def a0v (p l : Int) : Int := if (l.natAbs : Int) = p then p - 1 else if (l.natAbs : Int) = p + 1 then p + 1 else p
theorem a0e (n : Int) : (a0g n).length = n.toNat := by unfold a0g; simp
theorem a2j (st : List Int) (l : Int) : (a3R st l).length = st.length := by unfold a3R; simp
theorem a4T (w : List Int) : ∀ st : List Int, (w.foldl a3R st).length = st.length := by
 induction w with
 | nil => intro st; rfl
 | cons l w ih => intro st; rw [List.foldl_cons, ih, a2j]
theorem a1q (n : Int) (w : List Int) : (a2D n w).length = n.toNat := by unfold a2D; rw [a4T, a0e]
theorem a9T {n l : Int} {w : List Int} {i : Nat} (h : w[i]? = some l) : a2D n (w.take (i + 1)) = a3R (a2D n (w.take i)) l := by
 unfold a2D
 rw [List.take_add_one, h, List.foldl_append]
 rfl
theorem a3D {n s : Int} (h : s ∈ a0g n) : 0 ≤ s ∧ s < n := by
 unfold a0g at h
 obtain ⟨i, hi, rfl⟩ := List.mem_map.mp h
 have := List.mem_range.mp hi
 lia
theorem getD_set (l : List Int) (i j : Nat) (x d : Int) : (l.set i x).getD j d = if i = j ∧ j < l.length then x else l.getD j d := by
 rw [List.getD_eq_getElem?_getD, List.getElem?_set]
 by_cases h : i = j
 ·subst h
  by_cases h2 : i < l.length
  ·rw [if_pos rfl, if_pos h2, if_pos ⟨rfl, h2⟩]; rfl
  ·rw [if_pos rfl, if_neg h2, if_neg (fun q => h2 q.2)]
   rw [List.getD_eq_getElem?_getD, List.getElem?_eq_none (by lia)]
 ·rw [if_neg h, if_neg (fun q => h q.1), List.getD_eq_getElem?_getD]
theorem b3f (st : List Int) (l : Int) (h : LetOK (st.length : Int) l) (k : Nat) :
  (a3R st l).getD k 0 = if k = l.natAbs then st.getD (l.natAbs - 1) 0 else if k = l.natAbs - 1 then st.getD l.natAbs 0 else st.getD k 0 := by
 unfold LetOK at h
 unfold a3R
 rw [getD_set, getD_set, List.length_set]
 by_cases h1 : k = l.natAbs
 ·subst h1
  rw [if_pos ⟨rfl, by lia⟩, if_pos rfl]
 ·rw [if_neg (fun q => h1 q.1.symm), if_neg h1]
  by_cases h2 : k = l.natAbs - 1
  ·subst h2
   rw [if_pos ⟨rfl, by lia⟩, if_pos rfl]
  ·rw [if_neg (fun q => h2 q.1.symm), if_neg h2]
theorem b0v (st : List Int) (l : Int) (h : LetOK (st.length : Int) l) (p s : Int) (h0 : 0 ≤ p) (h1 : p < st.length) (e : st.getD p.toNat 0 = s) :
  0 ≤ a0v p l ∧ a0v p l < st.length ∧ (a3R st l).getD (a0v p l).toNat 0 = s := by
 have hl := h
 unfold LetOK at hl
 rw [b3f st l h]
 unfold a0v
 by_cases h2 : (l.natAbs : Int) = p
 ·rw [if_pos h2]
  refine ⟨by lia, by lia, ?_⟩
  have e1 : (p - 1).toNat = l.natAbs - 1 := by lia
  have e2 : p.toNat = l.natAbs := by lia
  rw [e1, if_neg (by lia), if_pos rfl, ← e2]; exact e
 ·rw [if_neg h2]
  by_cases h3 : (l.natAbs : Int) = p + 1
  ·rw [if_pos h3]
   refine ⟨by lia, by lia, ?_⟩
   have e1 : (p + 1).toNat = l.natAbs := by lia
   have e2 : p.toNat = l.natAbs - 1 := by lia
   rw [e1, if_pos rfl, ← e2]; exact e
  ·rw [if_neg h3]
   refine ⟨h0, h1, ?_⟩
   rw [if_neg (by lia), if_neg (by lia)]; exact e
theorem b2F (w : List Int) : ∀ (st : List Int) (p s : Int), WordOK (st.length : Int) w → 0 ≤ p → p < st.length → st.getD p.toNat 0 = s →
  0 ≤ w.foldl a0v p ∧ w.foldl a0v p < st.length ∧ (w.foldl a3R st).getD (w.foldl a0v p).toNat 0 = s := by
 induction w with
 | nil => intro st p s _ h0 h1 e; exact ⟨h0, h1, e⟩
 | cons l w ih =>
   intro st p s hw h0 h1 e
   obtain ⟨a, b, c⟩ := b0v st l (hw l List.mem_cons_self) p s h0 h1 e
   rw [List.foldl_cons, List.foldl_cons]
   have := ih (a3R st l) (a0v p l) s (by rw [a2j]; exact fun x hx => hw x (List.mem_cons_of_mem _ hx)) a (by rw [a2j]; exact b) c
   rw [a2j] at this
   exact this
theorem a6H (n : Int) (s : Int) (h0 : 0 ≤ s) (h1 : s < n) : (a0g n).getD s.toNat 0 = s := by
 unfold a0g
 rw [List.getD_eq_getElem?_getD, List.getElem?_map, List.getElem?_range (by lia)]
 show ((s.toNat : Nat) : Int) = s
 lia
theorem a5b (n : Int) (w : List Int) (hw : WordOK n w) (s : Int) (h0 : 0 ≤ s) (h1 : s < n) :
  0 ≤ w.foldl a0v s ∧ w.foldl a0v s < n ∧ (a2D n w).getD (w.foldl a0v s).toNat 0 = s := by
 have hl : ((a0g n).length : Int) = n := by rw [a0e]; lia
 have := b2F w (a0g n) s s (by rw [hl]; exact hw) h0 (by rw [hl]; exact h1) (a6H n s h0 h1)
 rw [hl] at this
 exact this
theorem b6m {l : List Int} {k : Nat} (h : k < l.length) : l.getD k 0 ∈ l := by
 rw [List.getD_eq_getElem?_getD, List.getElem?_eq_getElem h]
 exact List.getElem_mem h
theorem b3h (n : Int) (w : List Int) (hw : WordOK n w) (s : Int) (h0 : 0 ≤ s) (h1 : s < n) : s ∈ a2D n w := by
 obtain ⟨a, b, c⟩ := a5b n w hw s h0 h1
 have := b6m (l := a2D n w) (k := (w.foldl a0v s).toNat) (by rw [a1q]; lia)
 rw [c] at this; exact this
theorem a3p (n : Int) : (a0g n).Nodup := by
 unfold a0g
 refine List.Pairwise.map _ (fun (a b : Nat) (h : a ≠ b) => ?_) List.nodup_range
 show (a : Int) ≠ (b : Int)
 lia
theorem b2g (st : List Int) (l : Int) (h : LetOK (st.length : Int) l) : (a3R st l).Perm st := by
 unfold LetOK at h
 unfold a3R
 have ha : l.natAbs - 1 < st.length := by lia
 have hb : l.natAbs < st.length := by lia
 have e1 : st.getD l.natAbs 0 = st[l.natAbs] := by rw [List.getD_eq_getElem?_getD, List.getElem?_eq_getElem hb]; rfl
 have e2 : st.getD (l.natAbs - 1) 0 = st[l.natAbs - 1] := by rw [List.getD_eq_getElem?_getD, List.getElem?_eq_getElem ha]; rfl
 rw [e1, e2]
 exact List.set_set_perm ha hb
theorem a5T (w : List Int) : ∀ st : List Int, WordOK (st.length : Int) w → (w.foldl a3R st).Perm st := by
 induction w with
 | nil => intro st _; exact .refl _
 | cons l w ih =>
   intro st hw
   rw [List.foldl_cons]
   exact (ih _ (by rw [a2j]; exact fun x hx => hw x (List.mem_cons_of_mem _ hx))).trans (b2g st l (hw l List.mem_cons_self))
theorem b2j (n : Int) (w : List Int) (h0 : 0 ≤ n) (hw : WordOK n w) : (a2D n w).Perm (a0g n) := by
 refine a5T w (a0g n) ?_
 have e : ((n.toNat : Nat) : Int) = n := by lia
 rw [a0e, e]; exact hw
theorem a6v {l : List Int} (nd : l.Nodup) {k : Nat} (hk : k < l.length) (x : Int) (e : l.getD k 0 = x) : l.idxOf x = k := by
 rw [List.getD_eq_getElem?_getD, List.getElem?_eq_getElem hk] at e
 have e' : l[k] = x := e
 subst e'
 exact nd.idxOf_getElem k hk
theorem a6Q (n : Int) (w : List Int) (hw : WordOK n w) (s : Int) (h0 : 0 ≤ s) (h1 : s < n) : (((a2D n w).idxOf s : Nat) : Int) = w.foldl a0v s := by
 obtain ⟨a, b, c⟩ := a5b n w hw s h0 h1
 have nd : (a2D n w).Nodup := (b2j n w (by lia) hw).nodup_iff.mpr (a3p n)
 rw [a6v nd (k := (w.foldl a0v s).toNat) (by rw [a1q]; lia) s c]
 lia
theorem b2r (n : Int) (w : List Int) (hw : WordOK n w) (s : Int) (h0 : 0 ≤ s) (h1 : s < n) : (a1B n w).getD s.toNat 0 = w.foldl a0v s := by
 unfold a1B
 have e : (a0g n)[s.toNat]? = some s := by
  unfold a0g
  rw [List.getElem?_map, List.getElem?_range (by lia)]
  show some ((s.toNat : Nat) : Int) = some s
  congr 1; lia
 rw [List.getD_eq_getElem?_getD, List.getElem?_map, e]
 exact a6Q n w hw s h0 h1
theorem a7z (n : Int) (w : List Int) : (a1B n w).length = n.toNat := by unfold a1B; rw [List.length_map, a0e]
noncomputable def a0X (w : List Int) : List Int := w.reverse.map fun l => -l
noncomputable def a3m (n l : Int) : Int := if l < 0 then -(n + l) else n - l
theorem LetOK.neg {n l : Int} (h : LetOK n l) : LetOK n (-l) := by unfold LetOK at *; lia
theorem LetOK.flip {n l : Int} (h : LetOK n l) : LetOK n (a3m n l) := by unfold LetOK a3m at *; split <;> lia
theorem WordOK.map {n : Int} {w : List Int} {f : Int → Int} (hf : ∀ l, LetOK n l → LetOK n (f l)) (h : WordOK n w) : WordOK n (w.map f) := fun l hl => by
 obtain ⟨k, hk, rfl⟩ := List.mem_map.mp hl
 exact hf k (h k hk)
theorem WordOK.reverse {n : Int} {w : List Int} (h : WordOK n w) : WordOK n w.reverse := fun l hl => h l (List.mem_reverse.mp hl)
theorem WordOK.contr {n : Int} {w : List Int} (h : WordOK n w) : WordOK n (a0X w) := h.reverse.map fun _ => LetOK.neg
theorem PlOK.map {n : Int} {w : List Int} {f : Int → Int} (hf : ∀ l, LetOK n l → LetOK n (f l)) (h : PlOK n w) : PlOK n (w.map f) := ⟨h.1, h.2.1, by rw [List.length_map]; exact h.2.2.1, h.2.2.2.map hf⟩
theorem b0w (p l : Int) : a0v p (-l) = a0v p l := by unfold a0v; rw [Int.natAbs_neg]
theorem a7U (p l : Int) : a0v (a0v p l) l = p := by unfold a0v; split <;> split <;> (try split) <;> lia
theorem a7T {n p l : Int} (h : LetOK n l) (h0 : 0 ≤ p) (h1 : p < n) : 0 ≤ a0v p l ∧ a0v p l < n := by
 unfold LetOK at h; unfold a0v; split <;> (try split) <;> lia
noncomputable def folL (w : List Int) (p : Int) : Int := w.foldl a0v p
theorem folL_append (u v : List Int) (p : Int) : folL (u ++ v) p = folL v (folL u p) := by unfold folL; rw [List.foldl_append]
theorem b2G {n : Int} {w : List Int} : ∀ {p : Int}, WordOK n w → 0 ≤ p → p < n → 0 ≤ folL w p ∧ folL w p < n := by
 induction w with
 | nil => intro p _ h0 h1; exact ⟨h0, h1⟩
 | cons l w ih =>
   intro p hw h0 h1
   have := a7T (hw l (List.mem_cons_self ..)) h0 h1
   exact ih (fun k hk => hw k (List.mem_cons_of_mem _ hk)) this.1 this.2
theorem b6p (w : List Int) : ∀ p, folL (w.map fun l => -l) p = folL w p := by
 unfold folL
 induction w with
 | nil => intro p; rfl
 | cons l w ih => intro p; rw [List.map_cons, List.foldl_cons, List.foldl_cons, b0w, ih]
theorem a9l (w : List Int) : ∀ p, folL w.reverse (folL w p) = p := by
 induction w with
 | nil => intro p; rfl
 | cons l w ih =>
   intro p
   rw [List.reverse_cons, folL_append]
   show folL [l] (folL w.reverse (folL w (a0v p l))) = p
   rw [ih]
   exact a7U p l
theorem a6U (w : List Int) (p : Int) : folL (a0X w) (folL w p) = p := by unfold a0X; rw [b6p, a9l]
theorem a6F {n s : Int} (h0 : 0 ≤ s) (h1 : s < n) : s ∈ a0g n := by
 unfold a0g
 exact List.mem_map.mpr ⟨s.toNat, List.mem_range.mpr (by lia), by lia⟩
theorem a6K (n : Int) (w : List Int) (hw : WordOK n w) : a1B n w = (a0g n).map (folL w) := by
 unfold a1B
 refine List.map_congr_left fun s hs => ?_
 obtain ⟨h0, h1⟩ := a3D hs
 exact a6Q n w hw s h0 h1
theorem b0f (n : Int) (w : List Int) (hw : WordOK n w) {s : Int} (h0 : 0 ≤ s) (h1 : s < n) : (a1B n w).getD s.toNat 0 = folL w s := b2r n w hw s h0 h1
theorem b5T {f : Int → Int} {w : List Int} (h : ∀ l ∈ w, f l = l) : w.map f = w := by
 conv => rhs; rw [← List.map_id w]
 exact List.map_congr_left h
theorem b0l (w : List Int) : (w.map fun l => -l).map (fun l => -l) = w := by
 rw [List.map_map]
 exact b5T fun l _ => Int.neg_neg l
theorem a5f (w : List Int) : a0X (a0X w) = w := by
 unfold a0X
 rw [← List.map_reverse, List.reverse_reverse]
 exact b0l w
theorem LetOK.ne {n l : Int} (h : LetOK n l) : l ≠ 0 := by unfold LetOK at h; lia
theorem b2q {n p : Int} {w : List Int} (hw : WordOK n w) (h : p ∈ a1B n w) : 0 ≤ p ∧ p < n := by
 rw [a6K n w hw] at h
 obtain ⟨s, hs, rfl⟩ := List.mem_map.mp h
 obtain ⟨h0, h1⟩ := a3D hs
 exact b2G hw h0 h1
theorem b0A (l : Int) (w : List Int) : a0X (l :: w) = a0X w ++ [-l] := by unfold a0X; rw [List.reverse_cons, List.map_append]; rfl
noncomputable def rowL (k : Nat) : List Int := (List.range k).map fun i => ((i : Nat) : Int) + 1
end LM
namespace L2
open PySem PySem.Spec PyProof.Rows LM
theorem a9S (x : Str) (N : List Str) (t : T) (ts : List T) : a3h (x :: N) (t :: ts) = some t :: a3h N ts := by
 unfold a3h
 simp only [List.map_cons, List.length_cons, Nat.add_sub_add_right, List.cons_append]
theorem a9R (x : Str) (N : List Str) : a3h (x :: N) [] = none :: a3h N [] := by
 unfold a3h
 simp only [List.map_nil, List.length_cons, List.length_nil, Nat.sub_zero, List.nil_append, List.replicate_succ]
theorem b2h : a3h [] [] = [] := rfl
theorem b2p (ix : List (Option Nat)) (ρ : En) : a7w (none :: ix) ρ = none :: a7w ix ρ := rfl
theorem b2o (j : Nat) (ix : List (Option Nat)) (ρ : En) : a7w (some j :: ix) ρ = (ρ[j]?).join :: a7w ix ρ := rfl
theorem b3y (ρ : En) : a7w [] ρ = [] := rfl
theorem b3T {α : Type} (a : Option α) : (some a).join = a := rfl
theorem a0B {M : MH} {Q : VK3} {t : T} {M' : MH} (h : Q t M') : rt3 M Q t M' := ⟨M', Sub.refl, h⟩
theorem b6z {α : Type} (x : α) (xs : List α) : atI (x :: xs) 0 = some x := by
 have := a3y (xs := x :: xs) (j := 0) (v := x) rfl
 simpa using this
theorem c1i {α : Type} (x y : α) (xs : List α) : atI (x :: y :: xs) 1 = some y := by
 have := a3y (xs := x :: y :: xs) (j := 1) (v := y) rfl
 simpa using this
theorem c2k {α : Type} (x y z : α) (xs : List α) : atI (x :: y :: z :: xs) 2 = some z := by
 have := a3y (xs := x :: y :: z :: xs) (j := 2) (v := z) rfl
 simpa using this
theorem c1X (n : Nat) : ixN (n + 1) 0 = some 0 := by
 unfold ixN
 rw [if_pos (by lia), if_pos (by lia)]; rfl
theorem a8o {M : MH} {a : Addr} {o u : MO} : updM (updM M a o) a u = updM M a u := by
 funext b; unfold updM; split <;> rfl
theorem a5z (ns : List Int) (i : Int) (h0 : 0 ≤ i) (h : i < ns.length) : atI (ns.map T.int) i = some (.int (ns.getD i.toNat 0)) := by
 have e : i = ((i.toNat : Nat) : Int) := by lia
 have hl : i.toNat < ns.length := by lia
 have := a3y (xs := ns.map T.int) (j := i.toNat) (v := .int (ns.getD i.toNat 0)) (by
  rw [List.getElem?_map, List.getElem?_eq_getElem hl]
  simp [List.getD, List.getElem?_eq_getElem hl])
 rw [← e] at this
 exact this
theorem a9A (bs : List Bool) : a8g (bs.map T.bl) = some bs := by
 induction bs with
 | nil => rfl
 | cons b bs ih => show (a8g (bs.map T.bl)).map (b :: ·) = _; rw [ih]; rfl
theorem a1I (ns : List Int) : a1V (ns.map T.int) = true := by
 induction ns with
 | nil => rfl
 | cons n ns ih => show (a0t (.int n) && a1V (ns.map T.int)) = true; rw [ih]; rfl
theorem a4Y (ns : List Int) : a4t (ns.map T.int) = 0 := by
 induction ns with
 | nil => rfl
 | cons n ns ih => show max (depT (.int n)) (a4t (ns.map T.int)) = 0; rw [ih]; rfl
theorem b4w (a b : List Int) : eqTs (a.map T.int) (b.map T.int) = decide (a = b) := by
 induction a generalizing b with
 | nil => cases b <;> simp [eqTs]
 | cons x a ih =>
   cases b with
   | nil => simp [eqTs]
   | cons y b =>
     show (eqT (.int x) (.int y) && eqTs (a.map T.int) (b.map T.int)) = _
     rw [ih]
     have : eqT (.int x) (.int y) = (x == y) := rfl
     rw [this]
     by_cases h1 : x = y <;> by_cases h2 : a = b <;> simp [h1, h2]
theorem b8Q (a b : List T) : eqT (.tup a) (.tup b) = eqTs a b := rfl
theorem a5V (a b : Int) : eqT (.int a) (.int b) = decide (a = b) := by
 show (a == b) = _
 by_cases h : a = b <;> simp [h]
theorem b4x (x y : T) (a b : List T) : eqTs (x :: a) (y :: b) = (eqT x y && eqTs a b) := rfl
theorem b6r : eqTs [] [] = true := rfl
theorem b0e (x : T) (a : List T) : a1V (x :: a) = (a0t x && a1V a) := rfl
theorem b2l : a1V [] = true := rfl
theorem b3v (i : Int) : a0t (.int i) = true := rfl
theorem b5A (i : Bool) : a0t (.bl i) = true := rfl
theorem b3u (i : List T) : a0t (.tup i) = a1V i := rfl
theorem a5x (i : Int) : depT (.int i) = 0 := rfl
theorem b8S (i : Bool) : depT (.bl i) = 0 := rfl
theorem b6t (i : List T) : depT (.tup i) = a4t i + 1 := rfl
theorem b2K (x : T) (a : List T) : a4t (x :: a) = max (depT x) (a4t a) := rfl
theorem b4H : a4t [] = 0 := rfl
theorem a8p {M : MH} {p : Addr} {o : MO} (h : M p = some o) : updM M p o = M := by
 funext b; unfold updM; split
 ·rename_i e; rw [e, h]
 ·rfl
theorem b8w {M : MH} {p q : Addr} {o : MO} (h : M p = some o) (h' : M q = none) : p ≠ q := by
 rintro rfl
 rw [h] at h'; cases h'
theorem Sub.set {M M' : MH} {p : Addr} {o u : MO} (h : Sub (updM M p o) M') : Sub (updM M p u) (updM M' p u) := fun a v e => by
 by_cases ha : a = p
 ·subst ha; rw [a0c] at e ⊢; exact e
 ·rw [a1F ha] at e ⊢
  exact h a v (by rw [a1F ha]; exact e)
theorem Sub.newr {M M' : MH} {r : Addr} {o : MO} (h : Sub M M') (hr : M' r = none) : Sub M (updM M' r o) := h.trans (Sub.new hr)
theorem a1j {M : MH} {Q : VK3} {t : T} {M0 M' : MH} (h : Q t M0) (s : Sub M0 M') : rt3 M Q t M' := ⟨M0, s, h⟩
theorem a6D (n : Nat) : a0w 0 n = ((List.range n).map fun i => ((i : Nat) : Int)).map T.int := by
 unfold a0w
 rw [List.map_map]
 congr 1
 funext i
 simp
theorem b7N (n : Int) : a0w 0 n.toNat = (a0g n).map T.int := a6D _
theorem a0H (a : Int) (n : Nat) : (a0w a n).length = n := by unfold a0w; simp
theorem Sub.updF {M M' : MH} {p : Addr} {o : MO} (h : Sub M M') (hp : M p = none) : Sub M (updM M' p o) := fun a v e => by
 have ha : a ≠ p := by rintro rfl; rw [hp] at e; cases e
 rw [a1F ha]; exact h a v e
end L2
namespace L2
open PySem PySem.Spec PyProof.Rows
section
variable {prog : Program} {w : World} {A : Around} {E : Value → Shared → Prop} {s : Shared}
end
section
variable {X : Cx}
end
theorem a5I {n i : Nat} {x : T} (h : (a0w 0 n)[i]? = some x) : i < n ∧ x = .int i := by
 have hl := (List.getElem?_eq_some_iff.mp h).1
 rw [a0H] at hl
 unfold a0w at h
 rw [List.getElem?_map, List.getElem?_range hl] at h
 have e := Option.some.inj h
 refine ⟨hl, ?_⟩
 rw [← e]
 simp
theorem a0Z {n : Nat} (h : n < 10000) : n < sizeLine := Nat.lt_of_le_of_lt (by lia : n ≤ 10000) (by decide)
theorem a3s {n : Nat} (h : n < 10000) : n ≤ sizeLine := Nat.le_of_lt (a0Z h)
end L2
namespace HT
open PySem PySem.Spec PyProof.Rows
section
variable {prog : Program} {w : World} {A : Around} {E : Value → Shared → Prop} {s : Shared}
theorem getItem_tuple_all {t sl : Addr} {items : Array Value} {vl vu : Value} {lo hi : Option Int} {Q : Value → Shared → Prop} (ht : IsTup s.heap t items) (hs : s.heap.IsSliceOf sl vl vu .none) (pl : IsPart vl lo) (pu : IsPart vu hi)
  (hw : sIx items.size 0 lo = 0 ∧ sIx items.size items.size hi = items.size) (h : Q (.ref t) s)
  (hsz : items.size ≤ sizeLine) : wpAny (model prog w) A (getItem (.ref t) (.ref sl)) Q E s := by
 obtain ⟨os, hos, hcs, hds⟩ := id hs
 have hTs : s.TypeIs (.ref sl) "slice" := ⟨os, hos, hcs⟩
 unfold getItem
 try with_reducible refine wpAny_holding ?_
 first | refine wpAny_bind (wpAny_pure ?_) | skip
 refine wpAny_bind (wpAny_sequenceKey ht.typeIs (by decide) ?_)
 refine wpAny_bind (wpAny_callSpecial?_slot (name := Str.ofString "__getitem__") ht.typeIs PyProof.Rows.slot_tuple_getitem
  (wpAny_call_entry PyProof.Rows.slot_tuple_getitem ht.typeIs entry_tuple_getitem ?_ (args_tuple_getitem _ _)))
 show wpAny _ _ (Builtin.Tuple.tupleItemsOf (.ref t) >>= _) _ _ s
 refine wpAny_bind (tupleItemsOf_ ht ?_)
 refine wpAny_bind (wpAny_typeOf hTs ?_)
 rw [if_pos (by decide)]
 refine wpAny_bind (a3i hs pl pu ?_)
 have hyes : (((sIx items.size 0 lo : Nat) : Int) == 0 && (1 : Int) == 1 && (sIx items.size items.size hi - sIx items.size 0 lo) == items.size) = true := by
  rw [hw.1, hw.2]
  simp
 show wpAny _ _ (if (((sIx items.size 0 lo : Nat) : Int) == 0 && (1 : Int) == 1 && (sIx items.size items.size hi - sIx items.size 0 lo) == items.size) = true then _ else _) _ _ s
 rw [if_pos hyes]
 refine wpAny_bind (m := Builtin.Tuple.tupleIsExact (.ref t)) (wpAny_bind (wpAny_typeOf ht.typeIs (wpAny_pure ?_)))
 rw [if_pos (by decide)]
 refine wpAny_bind (wpAny_rule ?_)
 first
  | exact wpAny_pure ⟨_, rfl, wpAny_pure h⟩
  | exact wpAny_bind (wpAny_pure (wpAny_pure ⟨_, rfl, wpAny_pure h⟩))
end
end HT
namespace L2
open PySem PySem.Spec PyProof.Rows
section
variable {X : Cx}
noncomputable def cutT (xs : List T) (lo hi : Option Int) : List T := (xs.drop (HT.sIx xs.length 0 lo)).take (HT.sIx xs.length xs.length hi - HT.sIx xs.length 0 lo)
noncomputable def c1D (K : PySem.W.Frag) : V → Option Int → Option Int → Hp → VK → Prop := fun x lo hi H Q => ∃ a xs, x = .ref a ∧ SqT K H a xs ∧
 ∀ p H', SqT K H' p (cutV xs lo hi) → (H' = H ∨ H p = none ∧ H' = upd H p (.tup (cutV xs lo hi))) → Q (.ref p) H'
theorem b7C : SlR X (c1D X.K) := by
 intro pins s σ H x v vl vu lo hi sl Q I rx hs pl pu h
 obtain ⟨a, xs, rfl, hx, q⟩ := h
 by_cases hw : HT.sIx xs.length 0 lo = 0 ∧ HT.sIx xs.length xs.length hi = xs.length
 ·cases rx
  obtain ⟨its, r, ht, hz⟩ := I.tuple hx
  have hlen : its.toArray.size = xs.length := by rw [List.size_toArray]; exact r.length.symm
  refine ⟨"tuple", _, PyProof.Rows.slot_tuple_getitem.lookup, ht.typeIs, ?_⟩
  refine HT.getItem_tuple_all ht hs pl pu (by rw [hlen]; exact hw) ?_ (by rw [hlen]; exact hz)
  have e : cutV xs lo hi = xs := by
   unfold cutV
   rw [hw.1, hw.2]
   simp
  exact ⟨.ref a, H, I, rfl, q a H (by rw [e]; exact hx) (.inl rfl)⟩
 ·exact b9Y pins s σ H _ v vl vu lo hi sl Q I rx hs pl pu ⟨a, xs, rfl, hx, hw, fun p hp => q p _ (SqT.of a0A) (.inr ⟨hp, rfl⟩)⟩
theorem Reps.cut {K : PySem.W.Frag} {H : Hp} {xs : List V} {ts : List T} (r : Reps K H xs ts) (lo hi : Option Int) : Reps K H (cutV xs lo hi) (cutT ts lo hi) := by
 unfold cutV cutT
 rw [r.length]
 exact (r.drop _).take _
noncomputable abbrev TO3 := En → MH → (Option Int → MH → Prop) → Prop
noncomputable def HPo (X : Cx) (e : Option Expr) (t : TO3) : Prop := ∀ ρ M Q, t ρ M Q → PO X e (fun σ H Q2 => RhoR X.K σ H ρ ∧ HR X.K H M ∧ ∀ o M' H', Kp X.K H H' → HR X.K H' M' → Q o M' → Q2 o H')
noncomputable def dPo (K : PySem.W.Frag) (ρ : En) (t : TO3) : TO := fun σ H Q2 => ∃ M Q, t ρ M Q ∧ RhoR K σ H ρ ∧ HR K H M ∧ ∀ o M' H', Kp K H H' → HR K H' M' → Q o M' → Q2 o H'
theorem HPo.d {e : Option Expr} {t : TO3} {ρ : En} (h : HPo X e t) : PO X e (dPo X.K ρ t) := fun pins s σ H Q I ⟨M, Q3, q, b⟩ => h ρ M Q3 q pins s σ H Q I b
theorem PO.imp {e : Option Expr} {w w' : TO} (h : PO X e w) (f : ∀ σ H Q, w' σ H Q → w σ H Q) : PO X e w' := fun pins s σ H Q I q => h pins s σ H Q I (f σ H Q q)
noncomputable def tNo3 : TO3 := fun ρ M Q => Q none M
noncomputable def tPt3 (t : TE3) : TO3 := fun ρ M Q => t ρ M fun x M1 => match x with
 | .int i => Q (some i) M1
 | _ => False
theorem a5M : HPo X none tNo3 := fun ρ M Q h => b8k.imp fun σ H Q2 ⟨hr, hh, en⟩ => en _ _ _ Kp.refl hh h
theorem a5c {e : Expr} {t : TE3} (he : HE X e t) : HPo X (some e) (tPt3 t) := fun ρ M Q h => (b8j (he.d (ρ := ρ))).imp fun σ H Q2 ⟨hr, hh, en⟩ =>
 ⟨M, _, h, hr, hh, fun x v M1 H1 k1 h1 r1 q1 => by
  dsimp only at q1
  split at q1
  ·obtain rfl := a0n r1
   exact ⟨_, rfl, en _ _ _ k1 h1 q1⟩
  ·exact q1.elim⟩
noncomputable def rSlS : V → Option Int → Option Int → Hp → VK → Prop := fun x lo hi H Q => ∃ z, x = .str z ∧ z.length ≤ sizeLine ∧ Q (.str (Txt.slice z lo hi)) H
theorem b9Z : SlR X rSlS := by
 intro pins s σ H x v vl vu lo hi sl Q I rx hs pl pu h
 obtain ⟨z, rfl, hz, q⟩ := h
 obtain ⟨t, rfl⟩ := rx
 refine ⟨"str", _, F.slot_str_getitem.lookup, typeIs_str _ _ _, ?_⟩
 have fin : ∀ t' k, EP X pins σ Q (.str (Txt.slice z lo hi) t') { s with toks := k } := fun t' k => ⟨.str _, H, I.kept fun b o e => e, ⟨_, rfl⟩, q⟩
 have hl : (Txt.slice z lo hi).length ≤ sizeLine := Nat.le_trans (Txt.slice_le z _ _) hz
 cases pl with
 | none => cases pu with
   | none => exact wpAny_getItem_str_slice (l := none) (u := none) (st := none) hs rfl (post_val_or_str ⟨hl, fin⟩)
   | int j uj => exact wpAny_getItem_str_slice (l := none) (u := some (j, uj)) (st := none) hs rfl (post_val_or_str ⟨hl, fin⟩)
 | int i ui => cases pu with
   | none => exact wpAny_getItem_str_slice (l := some (i, ui)) (u := none) (st := none) hs rfl (post_val_or_str ⟨hl, fin⟩)
   | int j uj => exact wpAny_getItem_str_slice (l := some (i, ui)) (u := some (j, uj)) (st := none) hs rfl (post_val_or_str ⟨hl, fin⟩)
noncomputable def tSl3 (te : TE3) (tl th : TO3) : TE3 := fun ρ M Q => te ρ M fun x M1 => tl ρ M1 fun l M2 => th ρ M2 fun u M3 => match x with
 | .tup ts => Q (.tup (cutT ts l u)) M3
 | .adr p => (match M3 p with
   | some (.lst ts) => ∀ r, M3 r = none → Q (.adr r) (updM M3 r (.lst (cutT ts l u)))
   | _ => False)
 | .str z => z.length ≤ sizeLine ∧ Q (.str (Txt.slice z l u)) M3
 | _ => False
theorem a3U {e : Expr} {lo hi : Option Expr} {te : TE3} {tl th : TO3} {pos p2 : Pos} (he : HE X e te) (hl : HPo X lo tl) (hu : HPo X hi th) : HE X (.Subscript e (.Slice lo hi none p2) pos) (tSl3 te tl th) := fun ρ M Q h =>
 (b5F ((b7C.or b7D).or b9Z) (he.d (ρ := ρ)) (hl.d (ρ := ρ)) (hu.d (ρ := ρ))).imp fun σ H Q2 ⟨hr, hh, en⟩ =>
  ⟨M, _, h, hr, hh, fun x v M1 H1 k1 h1 r1 q1 => ⟨M1, _, q1, hr.kp k1, h1, fun l M2 H2 k2 h2 q2 => ⟨M2, _, q2, hr.kp (k1.trans k2), h2, fun u M3 H3 k3 h3 q3 => by
   have r3 := Rep.kp (k2.trans k3) _ _ r1
   have k13 := (k1.trans k2).trans k3
   split at q3
   ·rename_i ts
    obtain ⟨a, xs, rfl, g1, g2⟩ := a1l r3
    refine .inl (.inl ⟨a, xs, rfl, g1, fun p H' h' c => ?_⟩)
    rcases c with rfl | ⟨c1, rfl⟩
    ·exact en _ _ _ _ k13 h3 (a1U h' (g2.cut l u)) q3
    ·exact en _ _ _ _ (k13.trans (Kp.new c1)) (h3.keep c1) (a1U h' (Reps.kp (Kp.new c1) _ _ (g2.cut l u))) q3
   ·obtain rfl := a0o r3
    split at q3
    ·rename_i ts e0
     obtain ⟨xs, g1, g2⟩ := h3 _ _ e0
     refine .inl (.inr ⟨_, xs, rfl, SqL.of g1, fun p hp => ?_⟩)
     exact en _ _ _ _ (k13.trans (Kp.new hp)) (h3.newL hp (g2.cut l u)) a2y (q3 p (h3.free hp))
    ·exact q3.elim
   ·obtain rfl := a3c r3
    exact .inr ⟨_, rfl, q3.1, en _ _ _ _ k13 h3 a7q q3.2⟩
   ·exact q3.elim⟩⟩⟩
theorem b8U (xs : List T) (k : Int) (h0 : 0 ≤ k) (h1 : k ≤ xs.length) : cutT xs none (some k) = xs.take k.toNat := by
 unfold cutT
 have e : k = ((k.toNat : Nat) : Int) := by lia
 rw [e, HT.sIx_nat, HT.sIx_none, List.drop_zero, Nat.sub_zero, Nat.min_eq_left (by lia), Int.toNat_natCast]
theorem b4N (xs : List T) (k : Int) (h0 : 0 ≤ k) (h1 : k ≤ xs.length) : cutT xs (some k) none = xs.drop k.toNat := by
 unfold cutT
 have e : k = ((k.toNat : Nat) : Int) := by lia
 rw [e, HT.sIx_nat, HT.sIx_none, Nat.min_eq_left (by lia), Int.toNat_natCast]
 exact List.take_of_length_le (by rw [List.length_drop]; exact Nat.le_refl _)
end
end L2
namespace HT
open PySem PySem.Spec PyProof.Rows
section
variable {prog : Program} {w : World} {A : Around} {E : Value → Shared → Prop} {s : Shared}
theorem a4E {sl : Addr} {vk : Value} {n : Nat} {Q : Int × Int × Nat → Shared → Prop} (hs : s.heap.IsSliceOf sl .none .none vk) (pk : IsPart vk (some (-1)))
  (h : Q ((n : Int) - 1, -1, n) s) : wpAny (model prog w) A (Builtin.Slice.sliceApplied (.ref sl) (pure (n : Int))) Q E s := by
 obtain ⟨os, hos, hcs, hds⟩ := id hs
 unfold Builtin.Slice.sliceApplied Builtin.Slice.sliceFields
 refine wpAny_bind (wpAny_bind (wpAny_field hos hds (x := .none) rfl (wpAny_bind (wpAny_field hos hds (x := .none) rfl (wpAny_bind (wpAny_field hos hds (x := vk) rfl (wpAny_pure ?_)))))))
 refine wpAny_bind (a4D pk ?_)
 show wpAny _ _ (if ((-1 : Int) == 0) = true then _ else _) _ _ s
 rw [if_neg (by decide)]
 refine wpAny_bind (slicePart_none (wpAny_bind (slicePart_none (wpAny_bind (wpAny_pure ?_)))))
 show wpAny _ _ (pure ((n : Int) - 1, (-1 : Int), Builtin.Slice.slicePlaces ((n : Int) - 1) (-1) (-1))) _ _ s
 have e : Builtin.Slice.slicePlaces ((n : Int) - 1) (-1) (-1) = n := by
  unfold Builtin.Slice.slicePlaces
  rw [if_neg (by decide)]
  by_cases h : (n : Int) - 1 > -1
  ·rw [if_pos h]
   have : ((n : Int) - 1 - -1 - 1) / (- -1) = (n : Int) - 1 := by
    rw [show (- -1 : Int) = 1 by decide, Int.ediv_one]
    lia
   rw [this]; lia
  ·rw [if_neg h]; lia
 rw [e]
 exact wpAny_pure h
theorem b3x (xs : Array Value) : ((List.range xs.size).filterMap fun (m : Nat) => xs[((xs.size : Int) - 1 + (m : Int) * (-1)).toNat]?).toArray = xs.toList.reverse.toArray := by
 have h1 : ((List.range xs.size).filterMap fun (m : Nat) => xs[((xs.size : Int) - 1 + (m : Int) * (-1)).toNat]?) = (List.range xs.size).filterMap fun m => xs[xs.size - 1 - m]? := by
  congr 1
  funext m
  have : ((xs.size : Int) - 1 + (m : Int) * (-1)).toNat = xs.size - 1 - m := by lia
  rw [this]
 rw [h1]
 have h2 : ((List.range xs.size).filterMap fun m => xs[xs.size - 1 - m]?) = ((List.range xs.size).map fun m => xs.size - 1 - m).filterMap (xs[·]?) := by
  rw [List.filterMap_map]
  rfl
 rw [h2, PySem.W.krv_range, List.filterMap_reverse, PySem.W.krv_all]
theorem getItem_tuple_back {t sl : Addr} {items : Array Value} {vk : Value} {Q : Value → Shared → Prop} (ht : IsTup s.heap t items) (hs : s.heap.IsSliceOf sl .none .none vk) (pk : IsPart vk (some (-1)))
  (h : Q (.ref s.heap.objs.size) { s with heap := s.heap.push { cls := .type "tuple", data := .seq items.toList.reverse.toArray } })
  (hsz : items.size ≤ sizeLine) : wpAny (model prog w) A (getItem (.ref t) (.ref sl)) Q E s := by
 have htake : sizeOk (.seq items.toList.reverse.toArray) := by
  show items.toList.reverse.toArray.size ≤ sizeLine
  rw [List.size_toArray, List.length_reverse, Array.length_toList]
  exact hsz
 obtain ⟨os, hos, hcs, hds⟩ := id hs
 have hTs : s.TypeIs (.ref sl) "slice" := ⟨os, hos, hcs⟩
 unfold getItem
 try with_reducible refine wpAny_holding ?_
 first | refine wpAny_bind (wpAny_pure ?_) | skip
 refine wpAny_bind (wpAny_sequenceKey ht.typeIs (by decide) ?_)
 refine wpAny_bind (wpAny_callSpecial?_slot (name := Str.ofString "__getitem__") ht.typeIs PyProof.Rows.slot_tuple_getitem
  (wpAny_call_entry PyProof.Rows.slot_tuple_getitem ht.typeIs entry_tuple_getitem ?_ (args_tuple_getitem _ _)))
 show wpAny _ _ (Builtin.Tuple.tupleItemsOf (.ref t) >>= _) _ _ s
 refine wpAny_bind (tupleItemsOf_ ht ?_)
 refine wpAny_bind (wpAny_typeOf hTs ?_)
 rw [if_pos (by decide)]
 refine wpAny_bind (a4E hs pk ?_)
 show wpAny _ _ (if ((items.size : Int) - 1 == 0 && (-1 : Int) == 1 && items.size == items.size) = true then _ else _) _ _ s
 rw [if_neg (by simp), b3x]
 first
  | exact wpAny_bind (m := Builtin.Tuple.tupleExact _) (wpAny_newObj_type (wpAny_pure ⟨_, rfl, wpAny_pure h⟩) htake)
  | exact wpAny_bind (m := Builtin.Tuple.tupleExact _) (wpAny_newObj_type (wpAny_bind (wpAny_pure (wpAny_pure ⟨_, rfl, wpAny_pure h⟩))) htake)
  | exact wpAny_bind (wpAny_bind (m := Builtin.Tuple.tupleExact _) (wpAny_newObj_type (wpAny_pure (wpAny_pure ⟨_, rfl, wpAny_pure h⟩)) htake))
  | exact wpAny_bind (wpAny_bind (m := Builtin.Tuple.tupleExact _) (wpAny_newObj_type (wpAny_pure ⟨_, rfl, wpAny_pure h⟩) htake))
end
end HT
namespace L2
open PySem PySem.Spec PyProof.Rows
section
variable {X : Cx}
noncomputable def b5Z (Q : VK3) (x : T) : Option Int → MH → Prop := fun k M2 => k = some (-1) ∧ match x with
 | .tup ts => Q (.tup ts.reverse) M2
 | .adr p => (match M2 p with
   | some (.lst ts) => ∀ r, M2 r = none → Q (.adr r) (updM M2 r (.lst ts.reverse))
   | _ => False)
 | _ => False
noncomputable def b9I (te : TE3) (tk : TO3) : TE3 := fun ρ M Q => te ρ M fun x M1 => tk ρ M1 (b5Z Q x)
theorem c0R {e k : Expr} {te tk : TE3} {pos p2 : Pos} (he : HE X e te) (hk : HE X k tk) (hops : ∀ a b, subscripted (.Slice none none (some k) p2) false a b = operate [a, b] (getItem a b) := by intro _ _; with_unfolding_all rfl) : HE X (.Subscript e (.Slice none none (some k) p2) pos) (b9I te (tPt3 tk)) := fun ρ M Q h => by
 intro pins s σ H Q2 I ⟨hr, hh, en⟩
 refine Subscript_ (thn (he.d (ρ := ρ) pins s σ H (fun v H1 => ∃ x M1, Kp X.K H H1 ∧ HR X.K H1 M1 ∧ Rep X.K H1 v x ∧ tPt3 tk ρ M1 (b5Z Q x)) I ⟨M, _, h, hr, hh, fun x v M1 H1 k1 h1 r1 q1 => ⟨x, M1, k1, h1, r1, q1⟩⟩) fun v s1 ⟨x, H1, I1, r1, x', M1, k1, h1, rx, q1⟩ => ?_)
 refine wpAny_Slice ?_
 rw [evalPart_none]
 refine wpAny_pure (wpAny_pure ?_)
 refine thn ((a5c hk).d (ρ := ρ) pins s1 σ H1 (fun o H2 => ∃ M2, Kp X.K H1 H2 ∧ HR X.K H2 M2 ∧ b5Z Q x' o M2) I1 ⟨M1, _, q1, hr.kp k1, h1, fun o M2 H2 k2 h2 q2 => ⟨M2, k2, h2, q2⟩⟩) fun vk s2 ⟨o, H2, I2, pk, M2, k2, h2, eo, q2⟩ => ?_
 subst eo
 have I4 : Inv X pins σ H2 { s2 with heap := s2.heap.push { cls := .type "slice", data := .fields #[.none, .none, vk] } } := I2.kept (t' := s2.toks) fun b ob q => Heap.get?_push_of_some _ q
 have r3 := Rep.kp k2 _ _ rx
 show wpAny (model X.prog X.w) X.A (subscriptTail e (.Slice none none (some k) p2) v (.ref s2.heap.objs.size)) (EP X pins σ Q2) X.xe { s2 with heap := s2.heap.push { cls := .type "slice", data := .fields #[.none, .none, vk] } }
 split at q2
 ·rename_i ts
  obtain ⟨a, xs, rfl, g1, g2⟩ := a1l r3
  cases r1
  obtain ⟨its, r, ht, hz⟩ := I4.tuple g1
  have hlen := r.length
  refine tail_any (ops := [.ref a, .ref s2.heap.objs.size]) ht.typeIs PyProof.Rows.slot_tuple_getitem.lookup ?_ (hops _ _)
  refine HT.getItem_tuple_back ht (Heap.IsSliceOf.new ..) pk ?_ (by rw [List.size_toArray]; lia)
  have hp := I4.hok.fresh (Nat.le_refl _)
  refine ⟨.ref _, _, I4.laid (t' := s2.toks) (o := .tup xs.reverse) (fun b ob q => Heap.get?_push_of_some _ q) (Nat.le_refl _) ?_, rfl, en _ _ _ _ ((k1.trans k2).trans (Kp.new hp)) (h2.keep hp) (a1U (SqT.of a0A) (Reps.kp (Kp.new hp) _ _ g2.reverse)) q2⟩
  exact ⟨by rw [List.length_reverse]; exact hz, _, r.reverse, a2B.new _ _⟩
 ·obtain rfl := a0o r3
  cases r1
  split at q2
  ·rename_i ts e0
   obtain ⟨xs, g1, g2⟩ := h2 _ _ e0
   obtain ⟨its, r, ht, hz⟩ := I4.list (SqL.of g1)
   have hlen := r.length
   refine tail_any (ops := [.ref _, .ref s2.heap.objs.size]) ht.isList.typeIs slot_list_getitem.lookup ?_ (hops _ _)
   refine wpAny_getItem_list_slice ht.isList (Heap.IsSliceOf.new ..) .none .none pk (by decide) ?_ (by rw [List.size_toArray]; lia)
   rw [PySem.W.krv_pick]
   have hp := I4.hok.fresh (Nat.le_refl _)
   refine ⟨.ref _, _, I4.laid (t' := s2.toks) (o := .lst xs.reverse) (fun b ob q => Heap.get?_push_of_some _ q) (Nat.le_refl _) ?_, rfl, en _ _ _ _ ((k1.trans k2).trans (Kp.new hp)) (h2.newL hp g2.reverse) a2y (q2 _ (h2.free hp))⟩
   exact ⟨by rw [List.length_reverse]; exact hz, _, 0, r.reverse, Heap.get?_push_size _ rfl⟩
  ·exact q2.elim
 ·exact q2.elim
end
section
variable {X : Cx}
end
section
variable {X : Cx}
end
section
variable {X : Cx}
end
section
variable {X : Cx} {es : List Expr} {e : Expr} {t : TA3}
end
section
variable {X : Cx} {es : List Expr} {e : Expr} {t : TA3}
noncomputable def b7A : List T → Option (List Str)
 | [] => some []
 | .str i :: ts => (b7A ts).map (i :: ·)
 | _ :: _ => none
theorem a8t : ∀ (ns : List Str), b7A (ns.map T.str) = some ns
 | [] => rfl
 | n :: ns => by show (b7A (ns.map T.str)).map (n :: ·) = _; rw [a8t ns]; rfl
end
section
variable {prog : Program} {w : World} {A : Around} {E : Value → Shared → Prop} {s : Shared}
theorem b0r {R : Result → Shared → Prop} {S r : Addr} {a b c : Int} {t u v : Tok} {n : Nat} (hh : A.handled = none) (hr : IsRange s.heap r a b c t u v) (hsmall : Builtin.Range.small a b c = true)
  (hn : Builtin.Range.rangeSize a b c = n) (hlen : n ≤ 2 ^ 24) (hS : s.heap.get? S = some { cls := .type "list", data := .seq #[] 0 })
  (hR : ∀ (h' : Heap) (tk : Tok) (acc' : Array Value) (c' : Nat), (∀ b o, b ≠ S → s.heap.get? b = some o → h'.get? b = some o) → h'.get? S = some { cls := .type "list", dict := none, data := .seq acc' c', slots := #[] } →
   ItemsOf (fun i v => ∃ t, v = .int (a + i * c) t) acc' n → R (.ok (.ret (.ref S))) { s with heap := h', toks := tk }) :
  codeAny (model prog w) A (.builtin "list.__iadd__" ⟨[.ref S, .ref r], []⟩) R s := by
 refine codeAny_builtin F.entry_list_iadd ?_
 rw [Around.under_plainId F.plain_list_iadd _]
 show wpAny _ A.in1 (Builtin.List.listExtendWith (.ref S) (.ref r) (.ref S)) _ _ _
 exact wpAny_extend_range hh hr hsmall hn hlen S (.ref S) 0 hS hR
theorem a6x {Q : List Value → Shared → Prop} {r : Addr} {a b c : Int} {t u v : Tok} {n : Nat} (hh : A.handled = none) (hr : IsRange s.heap r a b c t u v) (hsmall : Builtin.Range.small a b c = true)
  (hn : Builtin.Range.rangeSize a b c = n) (hlen : n ≤ 2 ^ 24)
  (hQ : ∀ (h' : Heap) (tk : Tok) (acc' : Array Value), (∀ b o, s.heap.get? b = some o → h'.get? b = some o) → ItemsOf (fun i v => ∃ t, v = .int (a + i * c) t) acc' n → Q acc'.toList { s with heap := h', toks := tk }) :
  wpAny (model prog w) A (collect (.ref r)) Q E s := by
 unfold collect
 refine wpAny_bind (wpAny_runValue (codeAny_builtin F.entry_proto_collect ?_))
 rw [Around.under_plainId F.plain_proto_collect _]
 show wpAny _ A.in1 (newList [] >>= fun l => again (.builtin "list.__iadd__" ⟨[l, .ref r], []⟩)) _ _ s
 refine wpAny_bind (wpAny_newObj_type ?_)
 have hS₁ : (s.heap.push { cls := .type "list", data := .seq ([] : List Value).toArray }).get? s.heap.objs.size = some { cls := .type "list", data := .seq #[] } := Heap.get?_push_size _ rfl
 refine wpAny_pure ⟨plainId_quiet F.plain_list_iadd _, b0r (s := { s with heap := s.heap.push { cls := .type "list", data := .seq ([] : List Value).toArray } }) hh (Heap.get?_push_of_some _ hr) hsmall hn hlen hS₁ fun h' tk acc' c' hk hS hacc => ?_⟩
 show wpAny _ A (load s.heap.objs.size >>= _) _ _ _
 refine wpAny_bind (wpAny_load hS ?_)
 exact wpAny_pure (hQ h' tk acc' (fun b o e => hk b o (Nat.ne_of_lt (Heap.lt_size e)) (Heap.get?_push_of_some _ e)) hacc)
theorem a3L {Q₁ : Value → Shared → Prop} {r : Addr} {a b c : Int} {t u v : Tok} {n : Nat} (hh : A.handled = none) (hr : IsRange s.heap r a b c t u v) (hsmall : Builtin.Range.small a b c = true)
  (hn : Builtin.Range.rangeSize a b c = n) (hlen : n ≤ 2 ^ 24)
  (h : ∀ (h' : Heap) (tk : Tok) (acc : Array Value), (∀ b o, s.heap.get? b = some o → h'.get? b = some o) → ItemsOf (fun i v => ∃ t, v = .int (a + i * c) t) acc n → Q₁ (.ref h'.objs.size) { s with heap := h'.push { cls := .type "tuple", data := .seq acc }, toks := tk }) :
  codeAny (model prog w) A (.call (.builtin "tuple.__new__") ⟨[.type "tuple", .ref r], []⟩) (wants Q₁ E) s := by
 refine codeAny_of_tree ?_
 show wpAny _ A.in1 (do checkBuiltinCall "tuple.__new__" ⟨[.type "tuple", .ref r], []⟩; again (.builtin "tuple.__new__" ⟨[.type "tuple", .ref r], []⟩)) _ _ s
 refine wpAny_bind (wpAny_of_eq (F.newCall_tuple_1 _) (wpAny_pure ⟨plainId_quiet F.plain_tuple_new _, codeAny_builtin F.entry_tuple_new ?_⟩))
 rw [Around.under_plainId F.plain_tuple_new _]
 have hsub := sub_tuple_self
 have hinit := init_tuple_lookup
 have hmh := madeHere_tuple
 have hTI : s.TypeIs (.ref r) "range" := ⟨_, hr, rfl⟩
 wp_walk using wpAny_typeOf hTI, a6x (n := n) (A := A.in1) hh hr hsmall hn hlen
 intro h' tk acc hk hacc
 show wpAny _ _ (Builtin.Tuple.tupleExact acc.toList.toArray >>= fun v => ret v) _ _ _
 unfold Builtin.Tuple.tupleExact
 refine wpAny_bind (wpAny_newObj_type ?_ (by show acc.toList.toArray.size ≤ sizeLine; simp only [Array.toArray_toList]; rw [hacc.1, sizeLine_eq]; lia))
 refine wpAny_pure ?_
 have e : acc.toList.toArray = acc := by simp
 rw [e]
 exact h h' tk acc hk hacc
theorem a5a {Q : Value → Shared → Prop} {r : Addr} {a b c : Int} {t u v : Tok} {n : Nat} (hh : A.handled = none) (hr : IsRange s.heap r a b c t u v) (hsmall : Builtin.Range.small a b c = true)
  (hn : Builtin.Range.rangeSize a b c = n) (hlen : n ≤ 2 ^ 24)
  (hQ : ∀ (h' : Heap) (tk : Tok) (acc : Array Value), (∀ b o, s.heap.get? b = some o → h'.get? b = some o) → ItemsOf (fun i v => ∃ t, v = .int (a + i * c) t) acc n → Q (.ref h'.objs.size) { s with heap := h'.push { cls := .type "tuple", data := .seq acc }, toks := tk }) :
  wpAny (model prog w) A (call (.type "tuple") [.ref r]) Q E s := by
 refine callType_codes (Q₁ := fun obj s₁ => s₁.TypeIs obj "tuple" ∧ Q obj s₁) F.called_tuple (F.typeCall_tuple_1 _) F.entry_object_init
  (a3L (A := A.in1) (Q₁ := fun obj s₁ => s₁.TypeIs obj "tuple" ∧ Q obj s₁) hh hr hsmall hn hlen fun h' tk acc hm hacc => ⟨⟨_, Heap.get?_push_size _ rfl, rfl⟩, hQ h' tk acc hm hacc⟩) fun obj s₁ h₁ => ?_
 exact ⟨h₁.1, F.args_object_init_2 obj _, object_init_meets F.called_tuple.init.lookup F.called_tuple.made (by decide) prog w A.in1 _ s₁ ⟨h₁.1, rfl, h₁.2⟩⟩
end
section
open AutoSeq1 (wpAny_loadPart')
open SeqAt (EqAt)
theorem a5A {M : Model} {A : Around} {E : Value → Shared → Prop} {s : Shared} {β : Type} (f : Nat → β → Sem (ForInStep β)) (I : List Nat → β → Shared → Prop) (Q : β → Shared → Prop)
  (turn : ∀ x rest b s, I (x :: rest) b s → wpAny M A (f x b) (fun r s' => match r with | .yield b' => I rest b' s' | .done b' => Q b' s') E s)
  (fin : ∀ b s, I [] b s → Q b s) (r : Std.Legacy.Range) (b : β) (h : I (List.range' r.start r.size r.step) b s) : wpAny M A (forIn r b f) Q E s := by
 rw [Std.Legacy.Range.forIn_eq_forIn_range']
 exact wpAny_forIn_list f I Q turn fin _ b h
theorem a7e (l : Addr) (items : Array Value) (n : Nat) (dd : Option Addr) (sl : Array (Option Value)) (x : Value) (e : Value → Bool) (j : Nat) (hj : j < items.size) (hit : e items[j] = true) (hno : ∀ m (hm : m < items.size), m < j → e items[m] = false) :
  Meets (Builtin.«tuple.index» ⟨[.ref l, x], []⟩)
   (fun A R s => s.heap.get? l = some { cls := .type "tuple", dict := dd, data := .seq items n, slots := sl } ∧ (∀ y, y ∈ items → EqAt A.in1 s y x (e y)) ∧ R (.ok (.ret (.int j s.toks))) { s with toks := s.toks + 1 }) :=
 .of_wp fun prog w A R s h => by
  obtain ⟨hp, g, d, tk, os⟩ := s; obtain ⟨hl, he, h⟩ := h
  wp_walk using wpAny_loadPart' hl, a5A _ (fun rest b s' => b.1 = none ∧ s' = ⟨hp, g, d, tk, os⟩ ∧ ∃ i, i ≤ j ∧ rest = List.range' i (items.size - i)) _
  case turn =>
   rintro y rest b s' ⟨hb, rfl, i, hij, hr⟩
   have hsz : items.size - i = (items.size - (i + 1)) + 1 := by lia
   rw [hsz, List.range'_succ] at hr
   injection hr with hy hr
   subst hy
   have hys : y < items.size := by lia
   rw [Array.getElem?_eq_getElem hys]
   refine wpAny_bind (he items[y] (Array.getElem_mem hys) prog w _ _ ?_)
   by_cases hyj : y = j
   ·subst hyj
    rw [hit]
    wp_walk
    exact ⟨_, rfl, h⟩
   ·rw [hno y hys (by lia)]
    wp_walk
    exact ⟨rfl, rfl, y + 1, by lia, hr⟩
  case fin =>
   rintro ⟨b1, b2⟩ s' ⟨hb, rfl, i, hij, hr⟩
   exfalso
   have : (List.range' i (items.size - i)).length = 0 := by rw [← hr]; rfl
   rw [List.length_range'] at this
   lia
  case h =>
   refine ⟨rfl, rfl, 0, Nat.zero_le _, ?_⟩
   simp [Std.Legacy.Range.size]
end
section
variable {X : Cx} {a b e : Expr} {es : List Expr} {ta te : TE3} {t : TA3} {pos : Pos}
noncomputable def b6I (t : TA3) : TE3 := fun ρ M Q => t ρ M fun xs M1 => match xs with
 | [.int j] => (-(2 ^ 62) ≤ j ∧ j < 2 ^ 24) ∧ Q (.tup (a0w 0 j.toNat)) M1
 | _ => False
theorem b0s {t : TA3} {p p' pos' : Pos} (hm : X.mg "tuple" = none) (hm' : X.mg "range" = none) (ha : HA X [a] t) (hc : X.calm = true := by rfl) (hg : Gl X "tuple" := by rfl) (hg' : Gl X "range" := by rfl) (hs : starEach [a] X.env = [(false, eval a X.env)] := by rfl)
  (he : starEach [.Call (.Name "range" p') [a] [] pos'] X.env = (false, eval (.Call (.Name "range" p') [a] [] pos') X.env) :: starEach [] X.env := by rfl) :
  HE X (.Call (.Name "tuple" p) [.Call (.Name "range" p') [a] [] pos'] [] pos) (b6I t) := by
 intro ρ M Q h pins s σ H Q2 I bb
 obtain ⟨hr, hh, en⟩ := bb
 refine wpAny_Call_Name_kw (a3j I hg hm boot_tuple ?_ (by decide) (by decide))
 refine PyProof.Rows.callWith_type1 ?_ he rfl
 rw [he]
 refine Calls.spliced_cons ?_
 refine Call_ (a3j I hg' hm' boot_range (PyProof.Rows.callWith_type1 (thn (ha ρ M _ h pos' pins s σ H (fun vs H1 => ∃ j M1, vs = [V.int j] ∧ HR X.K H1 M1 ∧ Kp X.K H H1 ∧ (-(2 ^ 62) ≤ j ∧ j < 2 ^ 24) ∧ Q (.tup (a0w 0 j.toNat)) M1) I
  ⟨hr, hh, fun ts vs M1 H1 k1 h1 r1 q1 => by
   dsimp only at q1
   split at q1
   ·rename_i j
    obtain ⟨v, rfl, rv⟩ := a2r r1
    obtain rfl := a0n rv
    exact ⟨j, M1, rfl, h1, k1, q1.1, q1.2⟩
   ·exact q1.elim⟩) fun us s1 ⟨vs, H1, I1, rv, j, M1, e1, h1, k1, hj, q1⟩ => ?_) hs rfl))
 subst e1
 obtain ⟨u, rfl, t', rfl⟩ := a3n rv
 refine call_range_1 (Calls.spliced_nil ?_)
 have I2 : Inv X pins σ H1 { s1 with heap := s1.heap.push { cls := .type "range", data := .fields #[.int 0 s1.toks, .int j t', .int 1 (s1.toks + 1)] }, toks := s1.toks + 2 } := I1.kept fun b o e => Heap.get?_push_of_some _ e
 have hn : Builtin.Range.rangeSize 0 j 1 = ((j.toNat : Nat) : Int) := by rw [rangeSize_one]; split <;> lia
 refine a5a (I1.ok.hd hc) (IsRange.new ..) (small_one (by lia) (by lia) (by lia) (by lia)) hn (by lia) fun h' tk acc' kp ito => ?_
 have hz : j.toNat ≤ sizeLine := by rw [sizeLine_eq]; lia
 have vr : Vals (a1b 0 j.toNat) acc'.toList := by
  refine a2W (by unfold a1b; simp [ito.1]) fun i x ex => ?_
  have hi : i < j.toNat := by have := (List.getElem?_eq_some_iff.mp ex).1; simpa [a1b] using this
  have hi' : i < acc'.size := by rw [ito.1]; exact hi
  have ea : acc'[i]? = some acc'[i] := Array.getElem?_eq_getElem hi'
  obtain ⟨tt, et⟩ := ito.2 i _ ea
  refine ⟨acc'[i], by rw [Array.getElem?_toList]; exact ea, ?_⟩
  unfold a1b at ex
  rw [List.getElem?_map, List.getElem?_range hi] at ex
  have := Option.some.inj ex
  subst this
  exact ⟨tt, by rw [et, Int.mul_one]⟩
 have I2' : Inv X pins σ H1 { s1 with heap := h', toks := tk } := I2.kept (h' := h') (t' := tk) kp
 have eacc : acc'.toList.toArray = acc' := by simp
 have I3 : Inv X pins σ (upd H1 h'.objs.size (.tup (a1b 0 j.toNat))) { s1 with heap := h'.push { cls := .type "tuple", data := .seq acc' }, toks := tk } :=
  I2'.laid (t' := tk) (fun b o e => Heap.get?_push_of_some _ e) (Nat.le_refl _) (show a1P X.prog X.w _ _ _ (.tup (a1b 0 j.toNat)) from
   ⟨by unfold a1b; simpa using hz, acc'.toList, vr, by rw [eacc]; exact a2B.new _ _⟩)
 have hf := I2'.hok.fresh (Nat.le_refl _)
 have nw := Kp.new (K := X.K) (H := H1) (o := .tup (a1b 0 j.toNat)) hf
 exact ⟨.ref h'.objs.size, _, I3, rfl, en _ _ _ _ (k1.trans nw) (h1.keep hf) (a1U (SqT.of a0A) (a3S 0 j.toNat)) q1⟩
noncomputable def b8F (M : MH) (x : T) : Prop := match x with
 | .adr p => (match M p with | some (.lst _) => True | _ => False)
 | .tup _ => True
 | _ => False
noncomputable def b0c : RM3 := fun x xs M Q => match x, xs with
 | .adr p, [.int k] => (match M p with
   | some (.lst ts) => (match a5n ts with | some ns => k ∈ ns ∧ Q (.int (ns.idxOf k)) M | none => False)
   | _ => False)
 | .tup ts, [.int k] => (match a5n ts with | some ns => k ∈ ns ∧ Q (.int (ns.idxOf k)) M | none => False)
 | _, _ => False
theorem b2v (pins : List (Addr × Obj)) (s : Shared) (σ : St) (H : Hp) (v : V) (k : Int) (u : Value) (us : List Value) (ns : List Int) (M : MH) (Q : VK3) (Q2 : VK) (I : Inv X pins σ H s) (rv : RelV v u) (rvs : Vals [.int k] us) (r1 : Rep X.K H v (.tup (ns.map T.int))) (hh : HR X.K H M)
  (en : EndE X.K H Q Q2) (hk : k ∈ ns) (q : Q (.int (ns.idxOf k)) M) : wpAny (model X.prog X.w) X.A (call (.builtin "tuple.index") (u :: us)) (EP X pins σ Q2) X.xe s := by
 obtain ⟨p, ys, rfl, g1, g2⟩ := a1l r1
 obtain rfl := g2.ints
 cases rv
 obtain ⟨w', rfl, tk, rfl⟩ := a3n rvs
 obtain ⟨its, r', pl, hz⟩ := I.tuple0 g1
 have hl := r'.length
 rw [List.length_map] at hl hz
 obtain ⟨o, eo, ec, edd, n, ed⟩ := id pl
 obtain ⟨cls, dd, data, sl⟩ := o
 simp only at ec edd ed
 subst ec edd ed
 have hk' : ns.idxOf k < ns.length := List.idxOf_lt_length_iff.mpr hk
 have item : ∀ (j : Nat) (hj : j < its.toArray.size), ∃ tk', its.toArray[j] = Value.int (ns[j]'(by rw [List.size_toArray, ← hl] at hj; exact hj)) tk' := fun j hj => by
  have hj' : j < ns.length := by rw [List.size_toArray, ← hl] at hj; exact hj
  obtain ⟨w2, e2, tk', rfl⟩ := r'.get (i := j) (x := V.int ns[j]) (by rw [List.getElem?_map, List.getElem?_eq_getElem hj'] <;> rfl)
  have : its[j]? = some its.toArray[j] := by rw [List.getElem?_eq_getElem (by rw [List.size_toArray] at hj; exact hj)] <;> simp
  rw [e2] at this
  exact ⟨tk', (Option.some.inj this).symm⟩
 let ee : Value → Bool := fun v => match v with | .int i _ => i == k | _ => false
 refine call_meets PySem.F.slot_tuple_index ⟨_, eo, rfl⟩ PySem.F.entry_tuple_index (PySem.F.args_tuple_index_2 _ _)
  (a7e p its.toArray n none sl (.int k tk) ee (ns.idxOf k) (by rw [List.size_toArray, ← hl]; exact hk') ?_ ?_) ⟨eo, fun y hy => ?_, ?_⟩
 ·obtain ⟨tk', e⟩ := item (ns.idxOf k) (by rw [List.size_toArray, ← hl]; exact hk')
  rw [e]
  show (ns[ns.idxOf k] == k) = true
  simp
 ·intro m hm hlt
  obtain ⟨tk', e⟩ := item m hm
  rw [e]
  show (ns[m]'_ == k) = false
  have := List.not_of_lt_findIdx (p := (· == k)) (xs := ns) (i := m) (by simpa [List.idxOf] using hlt)
  simpa using this
 ·obtain ⟨j, hj, rfl⟩ := Array.getElem_of_mem hy
  obtain ⟨tk', e⟩ := item j hj
  rw [e]
  exact SeqAt.EqAt.int_int _ _ _ _
 ·exact ⟨.int (ns.idxOf k), H, I.tok _, ⟨_, rfl⟩, en _ _ M H Kp.refl hh a0i q⟩
noncomputable def tLMS (to : TE3) (t : TA3) : TE3 := fun ρ M Q => to ρ M fun x M1 => b8F M1 x ∧ t ρ M1 fun xs M2 => b0c x xs M2 Q
theorem b4e {o : Expr} {to : TE3} {apos cpos : Pos} (ho : HE X o to) (ha : HA X (e :: es) t)
  (hbase : attributeBase o "index" X.env (eval o X.env) = eval o X.env := by rfl)
  (hfew : ((backTo cpos (starEach (e :: es) X.env)).all (fun x => !x.1) && (backToKw cpos (keywordEach [] X.env)).all (fun x => x.1.isSome)
   && decide ((e :: es).length + ([] : List Keyword).length + (if ([] : List Keyword).isEmpty then 0 else 1) < 30)) = true := by rfl)
  (hline : (apos.endLine == cpos.line) = true := by rfl) (hs : starEach (e :: es) X.env = (false, eval e X.env) :: starEach es X.env := by rfl) (hplain : (backTo cpos (starEach es X.env)).any (·.1) = false := by rfl) :
  HE X (.Call (.Attribute o "index" apos) (e :: es) [] cpos) (tLMS to t) := by
 intro ρ M Q h pins s σ H Q2 I bb
 obtain ⟨hr, hh, en⟩ := bb
 refine wpAny_Call_method_late hbase hfew hline rfl (thn (ho ρ M _ h pins s σ H (fun v H1 => ∃ x M1, Rep X.K H1 v x ∧ HR X.K H1 M1 ∧ Kp X.K H H1 ∧ b8F M1 x ∧ t ρ M1 fun xs M2 => b0c x xs M2 Q) I
  ⟨hr, hh, fun x v M1 H1 k1 h1 r1 q1 => ⟨x, M1, r1, h1, k1, q1.1, q1.2⟩⟩) fun v s1 ⟨vv, H1, I1, rvv, x, M1, r1, h1, k1, sq, q1⟩ => ?_)
 have hA := ha ρ M1 _ q1 cpos pins s1 σ H1
 cases x with
 | adr p =>
   have ty : tyV X.K "list" vv H1 := b1s h1 r1 sq
   obtain ⟨t1, t2⟩ := b6G I1 rvv ty
   refine ⟨"list", "list.index", PySem.F.plainAttrs_list, PySem.F.slot_list_index, PySem.F.type_list_index, t1, t2, ?_⟩
   have hB := hA (fun vs H2 => ∃ xs M2, Reps X.K H2 vs xs ∧ HR X.K H2 M2 ∧ Kp X.K H1 H2 ∧ b0c (.adr p) xs M2 Q) I1 ⟨hr.kp k1, h1, fun ts vs M2 H2 k2 h2 r2 q2 => ⟨ts, M2, r2, h2, k2, q2⟩⟩
   rw [hs] at hB ⊢
   refine Calls.callWith_builtin (by show (false || (backTo cpos (starEach es X.env)).any (·.1)) = false; rw [hplain] <;> rfl) (Calls.evalArgs_plain ?_)
   refine thn hB fun us s2 ⟨vs, H2, I2, rvs, xs, M2, r2, h2, k2, q2⟩ => ?_
   have q3 : a7u (.adr p) xs M2 Q := by
    unfold b0c at q2
    split at q2
    ·rename_i h; cases h; exact q2
    ·rename_i h; cases h
    ·exact q2.elim
   exact b3M pins s2 σ H2 vv vs v us Q2 I2 rvv rvs ⟨.adr p, xs, M2, Q, Rep.kp k2 _ _ r1, r2, h2, q3, en.kp (k1.trans k2)⟩
 | tup ts =>
   obtain ⟨a1, ys, rfl, g1, g2⟩ := a1l r1
   have eu : v = .ref a1 := by cases rvv; rfl
   obtain ⟨its, _, ⟨oo, eo, ec, ed, _⟩, _⟩ := I1.tuple0 g1
   refine ⟨"tuple", "tuple.index", PySem.F.plainAttrs_tuple, PySem.F.slot_tuple_index, PySem.F.type_tuple_index, ?_, ?_, ?_⟩
   ·rw [eu]; exact ⟨oo, eo, ec⟩
   ·intro a2 e2
    rw [eu] at e2
    cases e2
    exact ⟨oo, eo, ed⟩
   have hB := hA (fun vs H2 => ∃ xs M2, Reps X.K H2 vs xs ∧ HR X.K H2 M2 ∧ Kp X.K H1 H2 ∧ b0c (.tup ts) xs M2 Q) I1 ⟨hr.kp k1, h1, fun ts vs M2 H2 k2 h2 r2 q2 => ⟨ts, M2, r2, h2, k2, q2⟩⟩
   rw [hs] at hB ⊢
   refine Calls.callWith_builtin (by show (false || (backTo cpos (starEach es X.env)).any (·.1)) = false; rw [hplain] <;> rfl) (Calls.evalArgs_plain ?_)
   refine thn hB fun us s2 ⟨vs, H2, I2, rvs, xs, M2, r2, h2, k2, q2⟩ => ?_
   unfold b0c at q2
   split at q2
   ·rename_i h; cases h
   ·rename_i ts' k h
    cases h
    obtain ⟨w, rfl, rw'⟩ := a2r r2
    obtain rfl := a0n rw'
    split at q2
    ·rename_i ns en'
     have et := a3G en'
     subst et
     exact b2v pins s2 σ H2 _ k v us ns M2 Q Q2 I2 rvv rvs (Rep.kp k2 _ _ r1) h2 (en.kp (k1.trans k2)) q2.1 q2.2
    ·exact q2.elim
   ·exact q2.elim
 | _ => exact sq.elim
end
section
open AutoSeq1
end
section
variable {X : Cx} {a b e f : Expr} {es : List Expr} {ta te : TE3} {t : TA3} {pos : Pos}
noncomputable def keyT : Key → T
 | .inl i => .int i
 | .inr x => .str x
theorem a4L {K : PySem.W.Frag} {H : Hp} {v : V} {k : Key} (r : Rep K H v (keyT k)) : v = kV k := by
 cases k with
 | inl i => exact a0n r
 | inr x => exact a3c r
noncomputable def valT {κ : Type} [DecidableEq κ] (kvs : List (κ × T)) (k : κ) : Option T := (kvs.find? fun kv => decide (kv.1 = k)).map (·.2)
noncomputable def putT {κ : Type} [DecidableEq κ] (kvs : List (κ × T)) (k : κ) (v : T) : List (κ × T) :=
 if (kvs.any fun kv => decide (kv.1 = k)) = true then kvs.map (fun kv => if kv.1 = k then (kv.1, v) else kv) else kvs ++ [(k, v)]
theorem KRep.val {κ : Type} [DecidableEq κ] {K : PySem.W.Frag} {H : Hp} (k : κ) : ∀ {xs : List (κ × V)} {kvs : List (κ × T)}, KRep K H xs kvs → (match valT kvs k with | some t => ∃ v, valV xs k = some v ∧ Rep K H v t | none => valV xs k = none)
 | [], [], _ => rfl
 | p :: r, q :: u, h => by
   have ih := KRep.val k h.2.2
   unfold valT valV at ih ⊢
   rw [List.find?_cons, List.find?_cons, h.1]
   by_cases c : q.1 = k
   ·simp only [c, decide_true, Option.map_some]
    exact ⟨p.2, rfl, h.2.1⟩
   ·simp only [c, decide_false]
    exact ih
 | [], q :: u, h => h.elim
 | p :: r, [], h => h.elim
theorem KRep.any {κ : Type} [DecidableEq κ] {K : PySem.W.Frag} {H : Hp} (k : κ) : ∀ {xs : List (κ × V)} {kvs : List (κ × T)}, KRep K H xs kvs → (xs.any fun kv => decide (kv.1 = k)) = kvs.any fun kv => decide (kv.1 = k)
 | [], [], _ => rfl
 | p :: r, q :: u, h => by rw [List.any_cons, List.any_cons, h.1, KRep.any k h.2.2]
 | [], q :: u, h => h.elim
 | p :: r, [], h => h.elim
theorem KRep.repl {κ : Type} [DecidableEq κ] {K : PySem.W.Frag} {H : Hp} (k : κ) {v : V} {z : T} (rz : Rep K H v z) : ∀ {xs : List (κ × V)} {kvs : List (κ × T)}, KRep K H xs kvs → KRep K H (xs.map fun kv => if kv.1 = k then (kv.1, v) else kv) (kvs.map fun kv => if kv.1 = k then (kv.1, z) else kv)
 | [], [], _ => trivial
 | p :: r, q :: u, h => by
   rw [List.map_cons, List.map_cons]
   refine ⟨?_, ?_, KRep.repl k rz h.2.2⟩
   ·rw [h.1]
    by_cases c : q.1 = k
    ·rw [if_pos c, if_pos c]
    ·rw [if_neg c, if_neg c]; exact h.1
   ·rw [h.1]
    by_cases c : q.1 = k
    ·rw [if_pos c, if_pos c]; exact rz
    ·rw [if_neg c, if_neg c]; exact h.2.1
 | [], q :: u, h => h.elim
 | p :: r, [], h => h.elim
theorem KRep.snoc {κ : Type} {K : PySem.W.Frag} {H : Hp} (k : κ) {v : V} {z : T} (rz : Rep K H v z) : ∀ {xs : List (κ × V)} {kvs : List (κ × T)}, KRep K H xs kvs → KRep K H (xs ++ [(k, v)]) (kvs ++ [(k, z)])
 | [], [], _ => ⟨rfl, rz, trivial⟩
 | p :: r, q :: u, h => ⟨h.1, h.2.1, KRep.snoc k rz h.2.2⟩
 | [], q :: u, h => h.elim
 | p :: r, [], h => h.elim
theorem KRep.put {κ : Type} [DecidableEq κ] {K : PySem.W.Frag} {H : Hp} (k : κ) {v : V} {z : T} (rz : Rep K H v z) {xs : List (κ × V)} {kvs : List (κ × T)} (h : KRep K H xs kvs) : KRep K H (putK xs k v) (putT kvs k z) := by
 unfold putK putT
 rw [h.any k]
 split
 ·exact h.repl k rz
 ·exact h.snoc k rz
noncomputable def b9R (tup : Bool) : TE3 := fun _ M Q => ∀ p, M p = none → Q (.adr p) (updM M p (if tup then .dt [] else .dk []))
theorem b4h {pos : Pos} : HE X (.Dict [] [] pos) (b9R false) := fun ρ M Q h =>
 (b5H).imp fun σ H Q2 ⟨hr, hh, en⟩ => fun p hp => en _ _ _ _ (Kp.new hp) (hh.newK hp (kvs := []) (xs := []) trivial) a2y (h p (hh.free hp))
noncomputable def b6e (M : MH) (x : T) : Prop := match x with
 | .adr p => (match M p with | some (.dk _) => True | some (.dt _) => True | _ => False)
 | _ => False
theorem b6d {K : PySem.W.Frag} {H : Hp} {M : MH} {x : T} {v : V} (hh : HR K H M) (r : Rep K H v x) (d : b6e M x) : ∃ a, v = .ref a ∧ IsD H a := by
 cases x with
 | adr p =>
   obtain rfl := a0o r
   unfold b6e at d
   dsimp only at d
   cases e : M p with
   | none => rw [e] at d; exact d.elim
   | some o =>
     rw [e] at d
     cases o with
     | lst ts => exact d.elim
     | dk kvs => obtain ⟨xs, g1, _⟩ := hh _ _ e; exact ⟨p, rfl, .inl ⟨xs, .of g1⟩⟩
     | dt kvs => obtain ⟨xs, g1, _⟩ := hh _ _ e; exact ⟨p, rfl, .inr ⟨xs, .of g1⟩⟩
     | fz kvs => exact d.elim
     | fk kvs => exact d.elim
 | _ => exact d.elim
noncomputable def b9Q (td tk tx : TE3) : TE3 := fun ρ M Q => td ρ M fun x M1 => b6e M1 x ∧ tk ρ M1 fun k M2 => tx ρ M2 fun z M3 => match x with
 | .adr p => (match M3 p with
   | some (.dk kvs) => ∃ kk, k = keyT kk ∧ Q ((valT kvs kk).getD z) M3
   | _ => False)
 | _ => False
theorem b6S {o : Expr} {td tk tx : TE3} {apos cpos : Pos} (hu : X.A.units + 64 < cLine) (ho : HE X o td) (he : HE X e tk) (hf : HE X f tx)
  (m1 : attributeBase o "get" X.env (eval o X.env) = eval o X.env := by rfl)
  (m2 : ((backTo cpos (starEach [e, f] X.env)).all (fun x => !x.1) && (backToKw cpos (keywordEach [] X.env)).all (fun x => x.1.isSome)
   && decide (([e, f] : List Expr).length + ([] : List Keyword).length + (if ([] : List Keyword).isEmpty then 0 else 1) < 30)) = true := by rfl)
  (m3 : (apos.endLine == cpos.line) = true := by rfl) (m4 : backTo cpos (starEach [e, f] X.env) = [(false, eval e X.env), (false, eval f X.env)] := by rfl) :
  HE X (.Call (.Attribute o "get" apos) [e, f] [] cpos) (b9Q td tk tx) := fun ρ M Q h =>
 (b1d (by lia) (ho.d (ρ := ρ)) (he.d (ρ := ρ)) (hf.d (ρ := ρ)) ⟨m1, m2, m3, m4⟩).imp fun σ H Q2 ⟨hr, hh, en⟩ => ⟨M, _, h, hr, hh, fun x v M1 H1 k1 h1 r1 q1 => by
  obtain ⟨hd, q1⟩ := q1
  obtain ⟨a, rfl, isd⟩ := b6d h1 r1 hd
  refine ⟨a, rfl, isd, M1, _, q1, hr.kp k1, h1, fun y v2 M2 H2 k2 h2 r2 q2 => ⟨M2, _, q2, hr.kp (k1.trans k2), h2, fun z v3 M3 H3 k3 h3 r3 q3 => ?_⟩⟩
  cases x with
  | adr p =>
    cases r1
    dsimp only at q3
    split at q3
    ·rename_i kvs e
     obtain ⟨kk, rfl, q3⟩ := q3
     obtain rfl := a4L r2
     obtain ⟨xs, g1, g2⟩ := h3 _ _ e
     refine ⟨_, DGet.k g1, en _ _ M3 H3 ((k1.trans k2).trans k3) h3 ?_ q3⟩
     have hv := g2.val kk
     cases ev : valT kvs kk with
     | none => rw [ev] at hv; rw [hv]; exact r3
     | some t =>
       rw [ev] at hv
       obtain ⟨u, e1, e2⟩ := hv
       rw [e1]; exact e2
    ·exact q3.elim
  | _ => exact hd.elim⟩
noncomputable def tDGK (td tk : TE3) : TE3 := fun ρ M Q => td ρ M fun x M1 => tk ρ M1 fun k M2 => match x with
 | .adr p => (match M2 p with
   | some (.dk kvs) => ∃ kk t, k = keyT kk ∧ valT kvs kk = some t ∧ Q t M2
   | _ => False)
 | _ => False
theorem c0T {o i : Expr} {td tk : TE3} {pos : Pos} (hu : X.A.units + 64 < cLine) (ho : HE X o td) (hi : HE X i tk) (hs : NoSl i := by intro _ _; rfl) : HE X (.Subscript o i pos) (tDGK td tk) := fun ρ M Q h =>
 (b3D (by lia) (ho.d (ρ := ρ)) (hi.d (ρ := ρ)) hs).imp fun σ H Q2 ⟨hr, hh, en⟩ => ⟨M, _, h, hr, hh, fun x v M1 H1 k1 h1 r1 q1 => ⟨M1, _, q1, hr.kp k1, h1, fun y v2 M2 H2 k2 h2 r2 q2 => by
  cases x with
  | adr p =>
    cases r1
    dsimp only at q2
    split at q2
    ·rename_i kvs e
     obtain ⟨kk, t, rfl, ev, q2⟩ := q2
     obtain rfl := a4L r2
     obtain ⟨xs, g1, g2⟩ := h2 _ _ e
     have hv := g2.val kk
     rw [ev] at hv
     obtain ⟨u, e1, e2⟩ := hv
     exact ⟨_, u, rfl, by rw [← e1]; exact DGet.k g1, en _ _ M2 H2 (k1.trans k2) h2 e2 q2⟩
    ·exact q2.elim
  | _ => exact q2.elim⟩⟩
noncomputable def sDPK (td tk tv : TE3) : TS3 := fun D ρ M => tv ρ M fun z M1 => td ρ M1 fun x M2 => tk ρ M2 fun k M3 => match x with
 | .adr p => (match M3 p with
   | some (.dk kvs) => ∃ kk, k = keyT kk ∧ kvs.length < sizeLine ∧ D.nx ρ (updM M3 p (.dk (putT kvs kk z)))
   | _ => False)
 | _ => False
theorem c0b {o i value : Expr} {td tk tv : TE3} {pos pos' : Pos} (hu : X.A.units + 64 < cLine) (hv : HE X value tv) (ho : HE X o td) (hi : HE X i tk) (hs : swapsWith value (some (.Subscript o i pos')) pos.line X.env = pure false := by rfl) :
  HS X (.Assign [.Subscript o i pos'] value pos) (sDPK td tk tv) := fun D ρ M h =>
 (b8i (by lia) (ho.d (ρ := ρ)) (hi.d (ρ := ρ)) (hv.d (ρ := ρ)) hs).imp fun D2 σ H ⟨hr, hh, en⟩ => ⟨M, _, h, hr, hh, fun z v M1 H1 k1 h1 r1 q1 => ⟨M1, _, q1, hr.kp k1, h1, fun x v2 M2 H2 k2 h2 r2 q2 => ⟨M2, _, q2, hr.kp (k1.trans k2), h2, fun y v3 M3 H3 k3 h3 r3 q3 => by
  cases x with
  | adr p =>
    cases r2
    dsimp only at q3
    split at q3
    ·rename_i kvs e
     obtain ⟨kk, rfl, hl, q3⟩ := q3
     obtain rfl := a4L r3
     obtain ⟨xs, g1, g2⟩ := h3 _ _ e
     have kk' := Kp.dict (K := X.K) (u := .dK (putK xs kk v)) g1 (.inl ⟨_, rfl⟩)
     have kall := (k1.trans k2).trans (k3.trans kk')
     refine ⟨_, _, rfl, DPut.k g1 (by rw [g2.length]; exact hl), en.nx _ _ _ _ kall (hr.kp kall) (h3.setK g1 (.inl ⟨_, rfl⟩) (g2.put kk (Rep.kp (k2.trans k3) _ _ r1))) q3⟩
    ·exact q3.elim
  | _ => exact q3.elim⟩⟩⟩
end
end L2
namespace L2
open PySem PySem.Spec PyProof.Rows LM
noncomputable def a3Q (st : List Int) (k : Nat) : List Int := (st.set k (st.getD (k + 1) 0)).set (k + 1) (st.getD k 0)
theorem a9Q (st : List Int) (l : Int) (h : 1 ≤ l.natAbs) : a3Q st (l.natAbs - 1) = a3R st l := by
 unfold a3Q a3R
 rw [show l.natAbs - 1 + 1 = l.natAbs by lia]
theorem a8s (st : List Int) (k : Nat) (h : k + 1 < st.length) : st.take k ++ ([st.getD (k + 1) 0, st.getD k 0] ++ st.drop (k + 2)) = a3Q st k := by
 unfold a3Q
 induction st generalizing k with
 | nil => simp at h
 | cons x t ih =>
   cases k with
   | zero =>
     cases t with
     | nil => simp at h
     | cons y t => rfl
   | succ k =>
     have := ih k (by simp at h; lia)
     simp only [List.take_succ_cons, List.cons_append, List.drop_succ_cons, List.set_cons_succ, List.getD_cons_succ] at this ⊢
     rw [← this]
noncomputable def isWd (n : Int) (w : List Int) (k : Int) : Bool := decide (1 ≤ n) && decide (n ≤ 6) && decide ((w.length : Int) ≤ k) && w.all (a6t n)
theorem b8E (n : Int) (w : List Int) : isWd n w 16 = isPl n w := by
 unfold isWd isPl
 rw [show decide ((w.length : Int) ≤ 16) = decide (w.length ≤ 16) from decide_eq_decide.mpr (by lia)]
theorem a8n {κ : Type} [DecidableEq κ] (p : κ × T) (r : List (κ × T)) (k : κ) : valT (p :: r) k = if p.1 = k then some p.2 else valT r k := by
 unfold valT
 rw [List.find?_cons]
 by_cases c : p.1 = k
 ·simp [c]
 ·simp [c]
theorem a4N {M M' : MH} {p : Addr} (h : Sub M M') (hp : M' p = none) : M p = none := by
 cases q : M p with
 | none => rfl
 | some o => have := h p o q; rw [hp] at this; cases this
theorem a6E {a : Int} {n i : Nat} {x : T} (h : (a0w a n)[i]? = some x) : i < n ∧ x = .int (a + (i : Nat)) := by
 unfold a0w at h
 rw [List.getElem?_map] at h
 cases q : (List.range n)[i]? with
 | none => rw [q] at h; cases h
 | some k =>
   rw [q] at h
   have hi := (List.getElem?_eq_some_iff.mp q).1
   rw [List.length_range] at hi
   rw [List.getElem?_range hi] at q
   cases q
   exact ⟨hi, (Option.some.inj h).symm⟩
theorem b1I (xs : List T) (k : Int) (h0 : 0 ≤ k) : cutT xs none (some k) = xs.take k.toNat := by
 unfold cutT
 have e : k = ((k.toNat : Nat) : Int) := by lia
 rw [e, HT.sIx_nat, HT.sIx_none, List.drop_zero, Nat.sub_zero, Int.toNat_natCast]
 by_cases h : k.toNat ≤ xs.length
 ·rw [Nat.min_eq_left h]
 ·rw [Nat.min_eq_right (by lia), List.take_of_length_le (Nat.le_refl _), List.take_of_length_le (by lia)]
theorem WordOK.take {n : Int} {w : List Int} (h : WordOK n w) (k : Nat) : WordOK n (w.take k) := fun l hl => h l (List.mem_of_mem_take hl)
theorem WordOK.drop {n : Int} {w : List Int} (h : WordOK n w) (k : Nat) : WordOK n (w.drop k) := fun l hl => h l (List.mem_of_mem_drop hl)
theorem a4Z (xs : List T) (k : Int) (h0 : 0 ≤ k) : cutT xs (some k) none = xs.drop k.toNat := by
 unfold cutT
 have e : k = ((k.toNat : Nat) : Int) := by lia
 rw [e, HT.sIx_nat, HT.sIx_none, Int.toNat_natCast]
 by_cases h : k.toNat ≤ xs.length
 ·rw [Nat.min_eq_left h, List.take_of_length_le (by rw [List.length_drop]; lia)]
 ·rw [Nat.min_eq_right (by lia), Nat.sub_self, List.take_zero, List.drop_of_length_le (by lia)]
end L2
namespace LM
noncomputable def twL (n : Int) (i : Nat) : List Int := (List.range i).flatMap fun k => rowL (n.toNat - 1 - k)
noncomputable def twF (n : Int) : List Int := twL n (n.toNat - 1)
theorem b9z {n : Int} (h1 : 2 ≤ n) (h2 : n ≤ 4) : WordOK n (twF n) := by
 have h : n = 2 ∨ n = 3 ∨ n = 4 := by lia
 have q : ∀ (m : Int), (twF m).all (a6t m) = true → WordOK m (twF m) := fun m h l hl => a4n.mp (List.all_eq_true.mp h l hl)
 rcases h with rfl | rfl | rfl <;> exact q _ (by decide +kernel)
theorem a2t {n l : Int} (h : LetOK n l) : WordOK n [l] := fun x hx => by
 have : x = l := by simpa using hx
 rw [this]; exact h
end LM
namespace L2
open PySem PySem.Spec PyProof.Rows LM
noncomputable def gI (w : List Int) (k : Int) : Int := w.getD k.toNat 0
noncomputable def a4v (w : List Int) (a : Int) : Bool := decide (0 ≤ a ∧ a < (w.length : Int) - 1) && decide ((1 : Int) < (((((gI w a).natAbs : Int) - ((gI w (a + 1)).natAbs : Int)).natAbs : Nat) : Int))
noncomputable def a4u (w : List Int) (a : Int) : Bool := decide (0 ≤ a ∧ a < (w.length : Int) - 1) && decide (gI w a = -(gI w (a + 1)))
noncomputable def a2K (w : List Int) (a : Int) : Bool := decide (0 ≤ a ∧ a < (w.length : Int) - 2) && (decide (((gI w a).natAbs : Int) = ((gI w (a + 2)).natAbs : Int)) && decide ((((((gI w a).natAbs : Int) - ((gI w (a + 1)).natAbs : Int)).natAbs : Nat) : Int) = 1) && (!decide (gI w a = gI w (a + 2)) || decide (0 < gI w a * gI w (a + 1))))
noncomputable def sgnL (a l : Int) : Int := if l < 0 then -((a.natAbs : Nat) : Int) else ((a.natAbs : Nat) : Int)
noncomputable def a4d (w : List Int) (a : Int) : List Int := w.take a.toNat ++ [sgnL (gI w (a + 1)) (gI w (a + 2)), sgnL (gI w a) (gI w (a + 1)), sgnL (gI w (a + 1)) (gI w a)] ++ w.drop (a + 3).toNat
noncomputable def inL (w : List Int) (a l : Int) : List Int := w.take a.toNat ++ [l, -l] ++ w.drop a.toNat
theorem a3O {A B : List Int} {x : Int} {a : Int} (h0 : 0 ≤ a) (h : A.length = a.toNat) : gI (A ++ x :: B) a = x := by
 unfold gI
 rw [List.getD_eq_getElem?_getD, ← h, List.getElem?_append_right (Nat.le_refl _), Nat.sub_self]
 rfl
theorem a3V {A B : List Int} {x y : Int} {a : Int} (h0 : 0 ≤ a) (h : A.length = a.toNat) : gI (A ++ x :: y :: B) (a + 1) = y := by
 have : A ++ x :: y :: B = (A ++ [x]) ++ y :: B := by simp
 rw [this]
 exact a3O (by lia) (by simp; lia)
theorem b4o {A B : List Int} {x y z : Int} {a : Int} (h0 : 0 ≤ a) (h : A.length = a.toNat) : gI (A ++ x :: y :: z :: B) (a + 2) = z := by
 have : A ++ x :: y :: z :: B = (A ++ [x, y]) ++ z :: B := by simp
 rw [this]
 exact a3O (by lia) (by simp; lia)
theorem cut2 {w : List Int} {a : Int} (h0 : 0 ≤ a) (h1 : a < (w.length : Int) - 1) : ∃ A p q B, w = A ++ p :: q :: B ∧ A.length = a.toNat := by
 refine ⟨w.take a.toNat, w[a.toNat]'(by lia), w[a.toNat + 1]'(by lia), w.drop (a.toNat + 2), ?_, by rw [List.length_take]; lia⟩
 conv => lhs; rw [← List.take_append_drop a.toNat w, List.drop_eq_getElem_cons (by lia), List.drop_eq_getElem_cons (by lia)]
theorem cut3 {w : List Int} {a : Int} (h0 : 0 ≤ a) (h1 : a < (w.length : Int) - 2) : ∃ A p q r B, w = A ++ p :: q :: r :: B ∧ A.length = a.toNat := by
 obtain ⟨A, p, q, B, e, h⟩ := cut2 (w := w) (a := a) h0 (by lia)
 cases B with
 | nil => rw [e] at h1; simp at h1; lia
 | cons r B => exact ⟨A, p, q, r, B, e, h⟩
theorem a5q {A B : List Int} {a : Int} (h : A.length = a.toNat) : (A ++ B).take a.toNat = A := by rw [← h]; simp
theorem a7X {A B : List Int} {a : Int} (h : A.length = a.toNat) : (A ++ B).drop a.toNat = B := by rw [← h]; simp
theorem a9o {A B : List Int} {x y : Int} {a : Int} (h0 : 0 ≤ a) (h : A.length = a.toNat) : (A ++ x :: y :: B).drop (a + 2).toNat = B := by
 have : A ++ x :: y :: B = (A ++ [x, y]) ++ B := by simp
 rw [this]
 exact a7X (by simp; lia)
theorem b4C {A B : List Int} {x y z : Int} {a : Int} (h0 : 0 ≤ a) (h : A.length = a.toNat) : (A ++ x :: y :: z :: B).drop (a + 3).toNat = B := by
 have : A ++ x :: y :: z :: B = (A ++ [x, y, z]) ++ B := by simp
 rw [this]
 exact a7X (by simp; lia)
theorem a4B {A B : List Int} {x y : Int} {k : Nat} (h : A.length = k) : a3Q (A ++ x :: y :: B) k = A ++ y :: x :: B := by
 rw [← a8s _ _ (by simp; lia)]
 have e1 := a3O (A := A) (B := y :: B) (x := x) (a := (k : Int)) (by lia) (by lia)
 have e2 := a3V (A := A) (B := B) (x := x) (y := y) (a := (k : Int)) (by lia) (by lia)
 have e3 := a9o (A := A) (B := B) (x := x) (y := y) (a := (k : Int)) (by lia) (by lia)
 have e4 := a5q (A := A) (B := x :: y :: B) (a := (k : Int)) (by lia)
 unfold gI at e1 e2
 rw [show ((k : Int)).toNat = k by lia] at e1 e4
 rw [show ((k : Int) + 1).toNat = k + 1 by lia] at e2
 rw [show ((k : Int) + 2).toNat = k + 2 by lia] at e3
 rw [e1, e2, e3, e4]
 simp
theorem a5E {A B : List Int} {p q r : Int} {a : Int} (h0 : 0 ≤ a) (h : A.length = a.toNat) : a4d (A ++ p :: q :: r :: B) a = A ++ sgnL q r :: sgnL p q :: sgnL q p :: B := by
 unfold a4d
 rw [a3O h0 h, a3V h0 h, b4o h0 h, a5q h, b4C h0 h]
 simp
theorem a8I {A B : List Int} {p q : Int} {a : Int} (h0 : 0 ≤ a) (h : A.length = a.toNat) : (A ++ p :: q :: B).take a.toNat ++ (A ++ p :: q :: B).drop (a + 2).toNat = A ++ B := by rw [a5q h, a9o h0 h]
theorem b1v {A B : List Int} {l : Int} {a : Int} (h : A.length = a.toNat) : inL (A ++ B) a l = A ++ l :: -l :: B := by
 unfold inL
 rw [a5q h, a7X h]
 simp
theorem a6c {A B : List Int} {p q : Int} {a : Int} (h0 : 0 ≤ a) (h : A.length = a.toNat) : a4v (A ++ p :: q :: B) a = true ↔ 1 < (((p.natAbs : Int) - (q.natAbs : Int)).natAbs : Int) := by
 unfold a4v
 rw [a3O h0 h, a3V h0 h]
 simp only [Bool.and_eq_true, decide_eq_true_eq, List.length_append, List.length_cons]
 constructor
 ·exact fun h => h.2
 ·exact fun z => ⟨by lia, z⟩
theorem a6b {A B : List Int} {p q : Int} {a : Int} (h0 : 0 ≤ a) (h : A.length = a.toNat) : a4u (A ++ p :: q :: B) a = true ↔ p = -q := by
 unfold a4u
 rw [a3O h0 h, a3V h0 h]
 simp only [Bool.and_eq_true, decide_eq_true_eq, List.length_append, List.length_cons]
 constructor
 ·exact fun h => h.2
 ·exact fun z => ⟨by lia, z⟩
theorem b8z {p q : Int} (hp : p ≠ 0) (hq : q ≠ 0) : 0 < p * q ↔ (0 < p ↔ 0 < q) := by
 rcases Int.lt_or_gt_of_ne hp with h | h <;> rcases Int.lt_or_gt_of_ne hq with g | g
 ·exact ⟨fun _ => by lia, fun _ => Int.mul_pos_of_neg_of_neg h g⟩
 ·exact ⟨fun z => absurd z (by have := Int.mul_neg_of_neg_of_pos h g; lia), fun z => by lia⟩
 ·exact ⟨fun z => absurd z (by have := Int.mul_neg_of_pos_of_neg h g; lia), fun z => by lia⟩
 ·exact ⟨fun _ => by lia, fun _ => Int.mul_pos h g⟩
noncomputable def b0K (p q r : Int) : Prop := p.natAbs = r.natAbs ∧ (p.natAbs + 1 = q.natAbs ∨ q.natAbs + 1 = p.natAbs) ∧ (p = r → (0 < p ↔ 0 < q))
theorem b8u {a b : Nat} : ((((a : Int) - (b : Int)).natAbs : Nat) : Int) = 1 ↔ (a + 1 = b ∨ b + 1 = a) := by lia
theorem a8d {A B : List Int} {p q r : Int} {a : Int} (h0 : 0 ≤ a) (h : A.length = a.toNat) (hp : p ≠ 0) (hq : q ≠ 0) : a2K (A ++ p :: q :: r :: B) a = true ↔ b0K p q r := by
 unfold a2K b0K
 rw [a3O h0 h, a3V h0 h, b4o h0 h]
 simp only [Bool.and_eq_true, decide_eq_true_eq, List.length_append, List.length_cons, Bool.or_eq_true, Bool.not_eq_true', decide_eq_false_iff_not, b8z hp hq, b8u]
 constructor
 ·rintro ⟨_, ⟨h1, h2⟩, h3⟩
  exact ⟨Int.ofNat.inj h1, h2, fun e => h3.resolve_left fun z => z e⟩
 ·rintro ⟨h1, h2, h3⟩
  refine ⟨⟨h0, ?_⟩, ⟨congrArg _ h1, h2⟩, ?_⟩
  ·clear hp hq h1 h2 h3
   lia
  ·by_cases e : p = r
   ·exact .inr (h3 e)
   ·exact .inl e
theorem a7o (p q : Int) : (sgnL p q).natAbs = p.natAbs := by unfold sgnL; split <;> lia
theorem _root_.LM.WordOK.sub {n : Int} {u v : List Int} (h : WordOK n u) (g : ∀ x ∈ v, x ∈ u) : WordOK n v := fun x hx => h x (g x hx)
theorem _root_.LM.LetOK.abs {n x y : Int} (h : LetOK n x) (e : y.natAbs = x.natAbs) : LetOK n y := by unfold LetOK at h ⊢; rw [e]; exact h
theorem b6q {n : Int} {w : List Int} {a : Int} (h : a4v w a = true) (hw : WordOK n w) : a4v (a3Q w a.toNat) a = true ∧ a3Q (a3Q w a.toNat) a.toNat = w ∧ WordOK n (a3Q w a.toNat) ∧ (a3Q w a.toNat).length = w.length := by
 have hb : 0 ≤ a ∧ a < (w.length : Int) - 1 := by
  unfold a4v at h
  simp only [Bool.and_eq_true, decide_eq_true_eq] at h
  exact h.1
 obtain ⟨A, p, q, B, rfl, hA⟩ := cut2 hb.1 hb.2
 rw [a6c hb.1 hA] at h
 rw [a4B hA, a4B hA, a6c hb.1 hA]
 refine ⟨by lia, rfl, hw.sub fun x hx => ?_, by simp⟩
 simp only [List.mem_append, List.mem_cons] at hx ⊢
 rcases hx with h | h | h | h <;> simp [h]
theorem b5L {n : Int} {w : List Int} {a : Int} (h : a4u w a = true) (hw : WordOK n w) : inL (w.take a.toNat ++ w.drop (a + 2).toNat) a (gI w a) = w ∧ WordOK n (w.take a.toNat ++ w.drop (a + 2).toNat) ∧ (w.take a.toNat ++ w.drop (a + 2).toNat).length + 2 = w.length ∧ 0 ≤ a ∧ a ≤ ((w.take a.toNat ++ w.drop (a + 2).toNat).length : Int) ∧ LetOK n (gI w a) ∧ a < w.length := by
 have hb : 0 ≤ a ∧ a < (w.length : Int) - 1 := by
  unfold a4u at h
  simp only [Bool.and_eq_true, decide_eq_true_eq] at h
  exact h.1
 obtain ⟨A, p, q, B, rfl, hA⟩ := cut2 hb.1 hb.2
 rw [a6b hb.1 hA] at h
 rw [a8I hb.1 hA, b1v hA, a3O hb.1 hA]
 refine ⟨by rw [h]; simp, hw.sub fun x hx => ?_, by simp; lia, hb.1, by simp; lia, hw p (by simp), by simp; lia⟩
 simp only [List.mem_append, List.mem_cons] at hx ⊢
 rcases hx with h | h <;> simp [h]
theorem b8G {n : Int} {w : List Int} {a l : Int} (h0 : 0 ≤ a) (h1 : a ≤ (w.length : Int)) (hw : WordOK n w) (hl : LetOK n l) : a4u (inL w a l) a = true ∧ (inL w a l).take a.toNat ++ (inL w a l).drop (a + 2).toNat = w ∧ WordOK n (inL w a l) ∧ (inL w a l).length = w.length + 2 := by
 have e := List.take_append_drop a.toNat w
 have hA : (w.take a.toNat).length = a.toNat := by rw [List.length_take]; lia
 generalize w.take a.toNat = A at e hA
 generalize w.drop a.toNat = B at e
 subst e
 rw [b1v hA, a8I h0 hA, a6b h0 hA]
 refine ⟨by lia, rfl, fun x hx => ?_, by simp; lia⟩
 simp only [List.mem_append, List.mem_cons] at hx
 rcases hx with h | h | h | h
 ·exact hw x (by simp [h])
 ·rw [h]; exact hl
 ·rw [h]; exact hl.abs (by lia)
 ·exact hw x (by simp [h])
theorem c2d {w : List Int} {a : Int} (h0 : 0 ≤ a) (h1 : a < w.length) : atI (w.map T.int) a = some (.int (gI w a)) := a5z w a h0 h1
inductive Stp where
 | far (a : Int)
 | three (a : Int)
 | out (a : Int)
 | inn (a l : Int)
noncomputable def inB (n : Int) (w : List Int) (a l : Int) : Bool := decide (0 ≤ a ∧ a ≤ (w.length : Int)) && a6t n l
noncomputable def outL (w : List Int) (a : Int) : List Int := w.take a.toNat ++ w.drop (a + 2).toNat
noncomputable def aft (n : Int) (w : List Int) : Stp → Option (List Int)
 | .far a => if a4v w a then some (a3Q w a.toNat) else none
 | .three a => if a2K w a then some (a4d w a) else none
 | .out a => if a4u w a then some (outL w a) else none
 | .inn a l => if inB n w a l then some (inL w a l) else none
theorem a7g {w : List Int} {a : Int} (h0 : 0 ≤ a) (h1 : a < (w.length : Int) - 2) : (a4d w a).length = w.length := by
 unfold a4d
 rw [List.length_append, List.length_append, List.length_take, List.length_drop]
 simp only [List.length_cons, List.length_nil]
 lia
theorem b2f {n : Int} {w : List Int} {a : Int} (h : a2K w a = true) (hw : WordOK n w) : WordOK n (a4d w a) ∧ (a4d w a).length = w.length := by
 have hb : 0 ≤ a ∧ a < (w.length : Int) - 2 := by
  unfold a2K at h
  simp only [Bool.and_eq_true, decide_eq_true_eq] at h
  exact h.1
 refine ⟨?_, a7g hb.1 hb.2⟩
 obtain ⟨A, p, q, r, B, rfl, hA⟩ := cut3 hb.1 hb.2
 have lp := hw p (by simp)
 have lq := hw q (by simp)
 rw [a5E hb.1 hA]
 intro x hx
 simp only [List.mem_append, List.mem_cons] at hx
 rcases hx with h | h | h | h | h
 ·exact hw x (by simp [h])
 ·rw [h]; exact lq.abs (a7o q r)
 ·rw [h]; exact lp.abs (a7o p q)
 ·rw [h]; exact lq.abs (a7o q p)
 ·exact hw x (by simp [h])
theorem c1k {n : Int} {w r : List Int} {s : Stp} (hw : WordOK n w) (h : aft n w s = some r) : WordOK n r ∧ r.length ≤ w.length + 2 := by
 cases s with
 | far a =>
   replace h : (if a4v w a = true then some (a3Q w a.toNat) else none) = some r := h
   split at h
   ·rename_i c
    obtain rfl := Option.some.inj h
    obtain ⟨_, _, h3, h4⟩ := b6q c hw
    exact ⟨h3, by lia⟩
   ·cases h
 | three a =>
   replace h : (if a2K w a = true then some (a4d w a) else none) = some r := h
   split at h
   ·rename_i c
    obtain rfl := Option.some.inj h
    obtain ⟨h3, h4⟩ := b2f c hw
    exact ⟨h3, by lia⟩
   ·cases h
 | out a =>
   replace h : (if a4u w a = true then some (outL w a) else none) = some r := h
   split at h
   ·rename_i c
    obtain rfl := Option.some.inj h
    obtain ⟨_, h3, h4, _⟩ := b5L c hw
    exact ⟨h3, by unfold outL; lia⟩
   ·cases h
 | inn a l =>
   replace h : (if inB n w a l = true then some (inL w a l) else none) = some r := h
   split at h
   ·rename_i c
    obtain rfl := Option.some.inj h
    unfold inB at c
    simp only [Bool.and_eq_true, decide_eq_true_eq, a4n] at c
    obtain ⟨_, _, h3, h4⟩ := b8G c.1.1 c.1.2 hw c.2
    exact ⟨h3, by lia⟩
   ·cases h
noncomputable def aftL (n : Int) (w : List Int) : List Stp → Option (List Int)
 | [] => some w
 | s :: L => match aft n w s with
   | some r => aftL n r L
   | none => none
theorem b4Z (n : Int) (w : List Int) (s : Stp) (L : List Stp) : aftL n w (s :: L) = match aft n w s with | some r => aftL n r L | none => none := rfl
theorem b7B {w : List Int} (h : w ≠ []) : ∃ A y, w = A ++ [y] := by
 rcases List.eq_nil_or_concat w with e | ⟨A, y, e⟩
 ·exact absurd e h
 ·exact ⟨A, y, by rw [e, List.concat_eq_append]⟩
noncomputable def IsP (n : Int) (r : List Int) : Prop := r.Perm (a0g n)
theorem IsP.len {n : Int} {r : List Int} (h : IsP n r) : r.length = n.toNat := by rw [h.length_eq, a0e]
theorem a4j (n : Int) : a0w 0 n.toNat = (a0g n).map .int := by
 unfold a0w a0g
 rw [List.map_map]
 exact List.map_congr_left fun i _ => by show T.int (0 + (i : Nat)) = T.int (i : Nat); rw [Int.zero_add]
theorem a0C {a b : TS3} {D : Ends3} {ρ : En} {M : MH} (h : ∀ K : En → MH → Prop, K = b D → a { D with nx := K } ρ M) : a3l a b D ρ M := h _ rfl
theorem b5t {a b c : TS3} {D : Ends3} {ρ : En} {M : MH} (h : ∀ K : En → MH → Prop, K = c D → a3l a b { D with nx := K } ρ M) : a3l a (a3l b c) D ρ M := h _ rfl
theorem b0W {a b c d : TS3} {D : Ends3} {ρ : En} {M : MH} (h : ∀ K : En → MH → Prop, K = d D → a3l a (a3l b c) { D with nx := K } ρ M) : a3l a (a3l b (a3l c d)) D ρ M := h _ rfl
theorem b5s {a b c d e : TS3} {D : Ends3} {ρ : En} {M : MH} (h : ∀ K : En → MH → Prop, K = e D → a3l a (a3l b (a3l c d)) { D with nx := K } ρ M) : a3l a (a3l b (a3l c (a3l d e))) D ρ M := h _ rfl
theorem b6T {u : List Int} {j : Nat} (h : j < u.length) : gI u j = u[j] := by
 unfold gI
 rw [Int.toNat_natCast, List.getD_eq_getElem?_getD, List.getElem?_eq_getElem h]
 rfl
theorem a9j {n : Int} {k : Int} (h0 : 0 ≤ k) (h1 : k < n) : gI (a0g n) k = k := a6H n k h0 h1
end L2
namespace LM
theorem WordOK.appl {n : Int} {w v : List Int} (h : WordOK n (w ++ v)) : WordOK n w := fun l hl => h l (List.mem_append_left _ hl)
theorem WordOK.one {n l : Int} (h : LetOK n l) : WordOK n [l] := fun x hx => by rw [List.mem_singleton.mp hx]; exact h
theorem WordOK.two {n a b : Int} (h : LetOK n a) (g : LetOK n b) : WordOK n [a, b] := fun l hl => by
 rcases List.mem_cons.mp hl with rfl | hl
 ·exact h
 ·rw [List.mem_singleton.mp hl]; exact g
theorem WordOK.three {n a b c : Int} (h : LetOK n a) (g : LetOK n b) (k : LetOK n c) : WordOK n [a, b, c] := fun l hl => by
 rcases List.mem_cons.mp hl with rfl | hl
 ·exact h
 ·exact WordOK.two g k l hl
end LM
namespace L2
open PySem PySem.Spec PyProof.Rows LM
inductive RelW (n : Int) : List Int → List Int → Prop where
 | refl (w : List Int) : RelW n w w
 | symm {w v : List Int} : RelW n w v → RelW n v w
 | trans {w v x : List Int} : RelW n w v → RelW n v x → RelW n w x
 | ctx {w v : List Int} (a b : List Int) : WordOK n a → WordOK n b → RelW n w v → RelW n (a ++ w ++ b) (a ++ v ++ b)
 | far {a b : Int} : LetOK n a → LetOK n b → (a.natAbs + 1 < b.natAbs ∨ b.natAbs + 1 < a.natAbs) → RelW n [a, b] [b, a]
 | three {p q : Int} : LetOK n p → LetOK n q → p * q > 0 → (p - q).natAbs = 1 → RelW n [p, q, p] [q, p, q]
 | out {l : Int} : LetOK n l → RelW n [l, -l] []
section
variable {n : Int} (h6 : n ≤ 6)
include h6
end
theorem RelW.lf {n : Int} {a w v : List Int} (ha : WordOK n a) (h : RelW n w v) : RelW n (a ++ w) (a ++ v) := by
 have := RelW.ctx a [] ha .nil h
 rwa [List.append_nil, List.append_nil] at this
theorem RelW.rt {n : Int} {b w v : List Int} (hb : WordOK n b) (h : RelW n w v) : RelW n (w ++ b) (v ++ b) := RelW.ctx [] b .nil hb h
theorem RelW.bk {n : Int} : ∀ {w : List Int}, WordOK n w → RelW n (a0X w ++ w) []
 | [], _ => .refl _
 | l :: w, hw => by
   have hl : LetOK n l := hw l List.mem_cons_self
   have hw' : WordOK n w := fun x hx => hw x (List.mem_cons_of_mem _ hx)
   rw [b0A, List.append_assoc]
   have o := RelW.out hl.neg
   rw [Int.neg_neg] at o
   have := RelW.ctx (a0X w) w hw'.contr hw' o
   rw [List.append_nil, List.append_assoc] at this
   exact this.trans (RelW.bk hw')
section
variable {n : Int}
end
section
variable {n : Int}
end
section
variable {n : Int}
end
end L2
namespace L2
open PySem PySem.Spec PyProof.Rows
noncomputable def c0f (hi : Int) (n : Nat) : List T := (List.range n).map fun i => T.int (hi - (i : Nat))
section
variable {X : Cx} {a b c : Expr} {t : TA3} {pos : Pos}
noncomputable def b8I (t : TA3) : TI3 := fun ρ M R => t ρ M fun xs M1 => match xs with
 | [.int i, .int j, .int s] => (s = -1 ∧ -(2 ^ 62) ≤ i ∧ i < 2 ^ 62 ∧ -(2 ^ 62) ≤ j ∧ j < 2 ^ 62) ∧ R ⟨c0f i (i - j).toNat, fun _ => True⟩ M1
 | _ => False
end
section
variable {X : Cx}
end
theorem Inv.turnNew {X : Cx} {pins : List (Addr × Obj)} {σ : St} {H : Hp} {s : Shared} {h' : Heap} {t' : Nat} {e it T : Addr} {xs : List V} (I : Inv X pins σ H s) (fe : FpOk X pins H e) (fi : FpOk X pins H it)
  (k : ∀ b o, b ≠ e → b ≠ it → s.heap.get? b = some o → h'.get? b = some o) (hT : s.heap.objs.size ≤ T) (new : a1P X.prog X.w (upd H T (.tup xs)) h' T (.tup xs)) :
  Inv X pins σ (upd H T (.tup xs)) { s with heap := h', toks := t' } := by
 have hn : H T = none := I.hok.fresh hT
 have ne : ∀ b u, H b = some u → b ≠ e ∧ b ≠ it := fun b u q => ⟨fun z => (by rw [z, fe.1] at q; cases q), fun z => (by rw [z, fi.1] at q; cases q)⟩
 have nc : ∀ {b : Addr}, b ∉ [e, it] → b ≠ e ∧ b ≠ it := fun hc => ⟨fun z => hc (by simp [z]), fun z => hc (by simp [z])⟩
 refine I.step (g' := s.gens) (d' := s.drawn) (ch := [e, it]) (fun b hb => ?_) (fun b o _ _ hc q _ => k b o (nc hc).1 (nc hc).2 q) (fun b o _ _ hc q _ => ⟨o.slots, k b o (nc hc).1 (nc hc).2 q⟩)
  (fun b o _ q n => by rw [a0p (Nat.ne_of_lt (Nat.lt_of_lt_of_le (Heap.lt_size q) hT))]; exact n)
  (fun b o hc q => ⟨o, k b o (nc hc).1 (nc hc).2 q⟩) (fun b xs q => by rw [a0p (a0k q hn)]; exact q) (fun b o u q => by rw [a0p (a0k q hn)]; exact q) (fun b ps q => ⟨#[], by rw [a0p (a0k q hn), q]; simp⟩) (fun m hm => ?_) (fun b u q => ?_) I.bare
 ·have z : b = e ∨ b = it := by simpa using hb
  rcases z with rfl | rfl
  ·exact ⟨fe.2.2.2.1, fe.2.1, fe.2.2.2.2.1, fe.2.2.2.2.2⟩
  ·exact ⟨fi.2.2.2.1, fi.2.1, fi.2.2.2.2.1, fi.2.2.2.2.2⟩
 ·obtain ⟨o, es, ep, ho, r⟩ := hm
  exact ⟨o, es, ep, k _ o (Ne.symm fe.2.1) (Ne.symm fi.2.1) ho, r⟩
 ·by_cases hb : b = T
  ·subst hb; rw [a0A] at q; cases q; exact new
  ·rw [a0p hb] at q
   refine (I.hok b u q).stay (fun c v hc z => ?_) (fun c z => by rw [a0p (a0k z hn)]; exact z) fun c xs z => by rw [a0p (a0k z hn)]; exact z
   rcases hc with y | y
   ·rw [y] at z ⊢; exact k b v (ne b u q).1 (ne b u q).2 z
   ·exact k c v (ne c _ y).1 (ne c _ y).2 z
noncomputable def Iten (K : PySem.W.Frag) (a : Addr) (n : Nat) : It :=
 ⟨fun i H => i < n ∧ ∃ xs, SqL K H a xs ∧ xs.length = n, fun i H x H' => ∃ T y, x = .ref T ∧ H T = none ∧ H' = upd H T (.tup [.int i, y]) ∧ ∀ xs, SqL K H a xs → xs[i]? = some y, fun i H => i = n ∧ ∃ xs, SqL K H a xs ∧ xs.length = n⟩
theorem b2Y {P : Program} {w : World} {K : PySem.W.Frag} {es : List Expr} {x1} {tp : Pos} (a e it : Addr) (n : Nat) (hne : e ≠ it) : Turn P w K (.Tuple es x1 tp) (Iten K a n) [e, it] e (fun i h => (∃ old, IsEnum h e it (i : Int) old) ∧ Heap.IsListIter h it a i) where
 mem := by simp
 obj := fun i h st b hb => by
  obtain ⟨⟨old, he⟩, hit⟩ := st
  have z : b = e ∨ b = it := by simpa using hb
  rcases z with rfl | rfl
  ·exact ⟨_, he, fun v z => by cases z⟩
  ·obtain ⟨o, q, c, d⟩ := hit
   exact ⟨o, q, fun v z => by rw [d] at z; cases z⟩
 keep := fun i h h' st k => by
  obtain ⟨⟨old, he⟩, hit⟩ := st
  exact ⟨⟨old, k e (by simp) _ he⟩, hit.at fun o q => k it (by simp) o q⟩
 item := by
  intro X hP hw hK hc i pins s σ H E I hf st hg
  subst hP hw hK
  obtain ⟨⟨old, he⟩, hit⟩ := st
  obtain ⟨hi, xs, hq, hxn⟩ := hg
  subst hxn
  obtain ⟨its, rv, p, hz⟩ := I.list hq
  obtain ⟨x, hx⟩ : ∃ x, xs[i]? = some x := ⟨_, List.getElem?_eq_getElem hi⟩
  obtain ⟨u, hu, ru⟩ := rv.get hx
  have fe := hf e (by simp)
  have fi := hf it (by simp)
  refine wpAny_pyNext_enum_item he hit p.isList (x := u) (by simpa using hu) hne fun h1 ho hit1 hT hsz hk => ?_
  refine ⟨_, rfl, wpAny_letOwnedTupleGo_enum ho fun h2 he2 hs2 => ?_⟩
  have neT : s.heap.objs.size ≠ e := Nat.ne_of_gt (Heap.lt_size he)
  have k2 : ∀ b o, b ≠ e → b ≠ it → s.heap.get? b = some o → h2.get? b = some o := fun b o h3 h4 q => (hs2.2 b h3).trans (hk b o h3 h4 q)
  have hT2 : h2.get? s.heap.objs.size = some { cls := .type "tuple", data := .seq #[.int i s.toks, u] } := (hs2.2 _ neT).trans hT
  have hn : H s.heap.objs.size = none := I.hok.fresh (Nat.le_refl _)
  have I2 : Inv X pins σ (upd H s.heap.objs.size (.tup [.int i, x])) { s with heap := h2, toks := s.toks + 1 } := I.turnNew fe fi k2 (Nat.le_refl _)
   ⟨by simp only [List.length_cons, List.length_nil]; rw [sizeLine_eq]; decide, [.int i s.toks, u], .cons ⟨_, rfl⟩ (.cons ru .nil), _, hT2, rfl, rfl, _, rfl⟩
  refine ⟨.ref s.heap.objs.size, _, I2, rfl, ⟨_, x, rfl, hn, rfl, fun ys hy => by rw [I.list_inj hy hq]; exact hx⟩, ⟨⟨_, he2⟩, hit1.at fun o q => (hs2.2 it hne.symm).trans q⟩, fun b hb => ?_⟩
  have z : b = e ∨ b = it := by simpa using hb
  have hb' : b < s.heap.objs.size := by
   rcases z with rfl | rfl
   ·exact Heap.lt_size he
   ·obtain ⟨o, q, _⟩ := hit
    exact Heap.lt_size q
  rw [a0p (Nat.ne_of_lt hb')]
  exact (hf b hb).1
 done := by
  intro X hP hw hK hc i pins s σ H E I hf st hg
  subst hP hw hK
  obtain ⟨⟨old, he⟩, hit⟩ := st
  obtain ⟨hi, xs, hq, hxn⟩ := hg
  subst hi
  obtain ⟨its, rv, p, hz⟩ := I.list hq
  have hl := rv.length
  obtain ⟨f0, f1, f2, f3, f4, f5⟩ := hf it (by simp)
  exact wpAny_pyNext_enum_end (I.ok.hd hc) he hit p.isList (Array.getElem?_eq_none (by simp; lia)) fun h' eb => ⟨rfl, I.turned (t' := s.toks) (fun b o hb e => eb b o hb e) f0 f1 f3 f4 f5⟩
 self := fun A i s Q E st h => by
  obtain ⟨⟨old, he⟩, _⟩ := st
  exact wpAny_pyIter_enum he h
theorem a3W {i : TI3} {g : TG3} {b : TS3} {D : Ends3} {ρ : En} {M : MH} (h : ∀ B : TS3, B = b → a6l i g B D ρ M) : a6l i g b D ρ M := h _ rfl
section
variable {X : Cx}
noncomputable def enT (ts : List T) : List T := (List.range ts.length).map fun i => .tup [.int (i : Nat), ts.getD i .non]
theorem a4W (ts : List T) : (enT ts).length = ts.length := by unfold enT; rw [List.length_map, List.length_range]
theorem b4A {ts : List T} {i : Nat} {x : T} (h : (enT ts)[i]? = some x) : ∃ t, ts[i]? = some t ∧ x = .tup [.int i, t] := by
 have hi : i < ts.length := by have := (List.getElem?_eq_some_iff.mp h).1; rwa [a4W] at this
 unfold enT at h
 rw [List.getElem?_map, List.getElem?_range hi] at h
 refine ⟨ts[i], List.getElem?_eq_getElem hi, ?_⟩
 have e : ts.getD i .non = ts[i] := by rw [List.getD_eq_getElem?_getD, List.getElem?_eq_getElem hi]; rfl
 rw [← e]
 exact (Option.some.inj h).symm
theorem b3W {K : PySem.W.Frag} {H : Hp} {a : Addr} {ts : List T} : ItOk K H (Iten K a ts.length) ⟨enT ts, fun M' => M' a = some (.lst ts)⟩ := by
 refine ⟨fun H' M' k hh st => ?_, fun i x H' M' e k hh st => ?_⟩
 ·obtain ⟨xs, g1, g2⟩ := hh _ _ st
  exact ⟨by show (enT ts).length = _; rw [a4W], xs, SqL.of g1, g2.length⟩
 ·obtain ⟨t, ht, rfl⟩ := b4A e
  obtain ⟨xs, g1, g2⟩ := hh _ _ st
  obtain ⟨v, e1, r1⟩ := g2.get ht
  refine ⟨⟨(List.getElem?_eq_some_iff.mp ht).1, xs, SqL.of g1, g2.length⟩, fun v' H'' y => ?_⟩
  obtain ⟨p, y, rfl, hn, rfl, hy⟩ := y
  have e2 := hy xs (SqL.of g1)
  rw [e1] at e2
  cases e2
  refine ⟨Kp.new hn, hh.keep hn, a1U (SqT.of a0A) ?_⟩
  unfold Reps
  refine ⟨_, _, rfl, a0i, ?_⟩
  unfold Reps
  refine ⟨_, _, rfl, Rep.kp (Kp.new hn) _ _ r1, ?_⟩
  unfold Reps
  rfl
noncomputable def c0Q (tl : TE3) : TI3 := fun ρ M R => tl ρ M fun x M1 => match x with
 | .adr p => (match M1 p with | some (.lst ts) => R ⟨enT ts, fun M' => M' p = some (.lst ts)⟩ M1 | _ => False)
 | _ => False
theorem c0N {es : List Expr} {x1} {tp pos : Pos} {l : Expr} {tl : TE3} {p : Pos} (hm : X.mg "enumerate" = none) (hl : HE X l tl) (hg : Gl X "enumerate" := by rfl) (hs : starEach [l] X.env = [(false, eval l X.env)] := by rfl) : HI X (.Tuple es x1 tp) (.Call (.Name "enumerate" p) [l] [] pos) (c0Q tl) := by
 intro ρ M R h pins s σ H R2 I b
 obtain ⟨hr, hh, en⟩ := b
 have pa := b3F (X := X) (hl.d (ρ := ρ)) b6R hs
 refine Call_ (a3j I hg hm PyProof.Rows.boot_enumerate (PyProof.Rows.callWith_type1 (thn (pa pos pins s σ H (fun vs H1 => ∃ v t M1, vs = [v] ∧ Kp X.K H H1 ∧ HR X.K H1 M1 ∧ Rep X.K H1 v t ∧ (match t with
  | .adr p => (match M1 p with | some (.lst ts) => R ⟨enT ts, fun M' => M' p = some (.lst ts)⟩ M1 | _ => False)
  | _ => False)) I ⟨M, _, h, hr, hh, fun t v M1 H1 k1 h1 r1 q1 => ⟨v, t, M1, rfl, k1, h1, r1, q1⟩⟩) fun us s1 ⟨vs, H1, I1, r1, v, t, M1, e, k1, h1, rt, q1⟩ => ?_) hs rfl))
 subst e
 cases r1 with
 | cons r rr =>
   cases rr
   split at q1
   ·rename_i a
    obtain rfl := a0o rt
    cases r
    split at q1
    ·rename_i ts e0
     obtain ⟨xs, g1, g2⟩ := h1 _ _ e0
     obtain ⟨its, rv, p, hz⟩ := I1.list (SqL.of g1)
     refine call_enumerate_list p.isList fun h' he hit hsz hk => ?_
     refine wpAny_pyIter_enum (s := { s1 with heap := h' }) he ?_
     refine ⟨s1.heap.objs.size + 1, [s1.heap.objs.size + 1, s1.heap.objs.size], _, _, H1, rfl, I1.kept (t' := s1.toks) hk, b2Y a _ _ ts.length (Nat.succ_ne_self _), ⟨⟨_, he⟩, hit⟩, fun b hb => ?_, en _ _ M1 H1 k1 h1 b3W q1⟩
     have z : b = s1.heap.objs.size + 1 ∨ b = s1.heap.objs.size := by simpa using hb
     rcases z with rfl | rfl
     ·exact I1.fpOk (Nat.le_succ _) (I1.hok.fresh (Nat.le_succ _))
     ·exact I1.fpOk (Nat.le_refl _) (I1.hok.fresh (Nat.le_refl _))
    ·exact q1.elim
   ·exact q1.elim
end
section
variable {X : Cx} {pins : List (Addr × Obj)} {σ : St} {H : Hp} {s : Shared}
end
section
variable {X : Cx} {Ha : Hp} {a b c e : Expr} {es : List Expr} {st : Stmt} {rest ba bb body : List Stmt} {ta tb te : TE3} {tA : TT3} {t u : TS3} {pos : Pos}
end
section
variable {X : Cx} {Ha : Hp} {e : Expr} {es : List Expr} {t : TA3} {pos : Pos}
end
section
variable {X : Cx} {Ha : Hp} {e : Expr} {te : TE3} {pos : Pos}
end
section
variable {P : Program} {w : World} {K : PySem.W.Frag} {mg : Str → Option Value} {base : Heap}
end
section
variable {prog : Program} {w : World} {A : Around} {E : Value → Shared → Prop} {s : Shared} {h : Heap} {g : Array GenState} {d : Drawn} {t : Nat} {os : OsState} {a C : Addr} {o : Obj} {K : PySem.W.Frag}
local macro_rules | `(tactic| walk_at "xc") => `(tactic| (repeat any_goals (first | wp_step | assumption)))
end
section
variable {X : Cx} {pos : Pos}
end
section
variable {X : Cx} {pins : List (Addr × Obj)} {σ : St} {H : Hp} {s : Shared}
end
local macro_rules | `(tactic| walk_at "xc") => `(tactic| (repeat any_goals (first | wp_step | assumption)))
section
variable {X : Cx} {pos : Pos}
end
section
variable {X : Cx} {pins : List (Addr × Obj)} {σ σ' : St} {H : Hp} {s : Shared}
end
section
variable {X : Cx} {body : List Stmt}
end
section
variable {K : PySem.W.Frag} {mg : Str → Option Value} {P : Addr} {cs : List (Str × Addr)}
end
section
variable {X : Cx}
end
section
variable {X : Cx}
end
section
variable {X : Cx} {d : Addr} {ks : List (Str × Addr)}
end
section
variable {X : Cx} {d : Addr} {ks : List (Str × Addr)}
end
noncomputable def flT : T → Bool
 | .non => true
 | .bl _ => true
 | .int _ => true
 | .str _ => true
 | _ => false
noncomputable def toV : T → V
 | .bl b => .bl b
 | .int i => .int i
 | .str z => .str z
 | _ => .non
theorem b6P {K : PySem.W.Frag} {H : Hp} {v : V} {t : T} (f : flT t = true) (r : Rep K H v t) : v = toV t := by
 cases t with
 | non => exact b3Z r
 | bl b => exact a5e r
 | int i => exact a0n r
 | str z => exact a3c r
 | _ => cases f
theorem a9Y {K : PySem.W.Frag} {H : Hp} : ∀ {vs : List V} {ts : List T}, ts.all flT = true → Reps K H vs ts → vs = ts.map toV
 | vs, [], _, r => by unfold Reps at r; exact r
 | vs, t :: ts, f, r => by
   unfold Reps at r
   obtain ⟨v, w, rfl, r1, r2⟩ := r
   rw [List.all_cons, Bool.and_eq_true] at f
   rw [b6P f.1 r1, a9Y f.2 r2]
   rfl
theorem a7f {t : T} (f : flT t = true) : a6w (toV t) = true := by
 cases t <;> first | rfl | cases f
theorem a5D : ∀ {ts : List T}, ts.all flT = true → (ts.map toV).all a6w = true
 | [], _ => rfl
 | t :: ts, f => by
   rw [List.all_cons, Bool.and_eq_true] at f
   rw [List.map_cons, List.all_cons, a7f f.1, a5D f.2]
   rfl
theorem b9D {x y : T} (f : flT x = true) (g : flT y = true) : eqV (toV x) (toV y) = eqT x y := by
 cases x with
 | tup _ => cases f
 | adr _ => cases f
 | rd _ => cases f
 | dic _ _ => cases f
 | _ =>
   cases y with
   | tup _ => cases g
   | adr _ => cases g
   | rd _ => cases g
   | dic _ _ => cases g
   | _ => rfl
noncomputable def inT (x : T) (ts : List T) : Bool := ts.any fun y => eqT y x
theorem b2Z {x : T} (f : flT x = true) : ∀ {ts : List T}, ts.all flT = true → inV (toV x) (ts.map toV) = inT x ts
 | [], _ => rfl
 | t :: ts, g => by
   rw [List.all_cons, Bool.and_eq_true] at g
   have := b2Z f g.2
   unfold inV inT at this ⊢
   rw [List.map_cons, List.any_cons, List.any_cons, b9D g.1 f, this]
noncomputable def rIn3 (neg : Bool) : R3 := fun x y M Q => flT x = true ∧ match y with
 | .tup ts => ts.all flT = true ∧ Q (.bl (if neg then !inT x ts else inT x ts)) M
 | .adr p => match M p with
   | some (.lst ts) => ts.all flT = true ∧ Q (.bl (if neg then !inT x ts else inT x ts)) M
   | _ => False
 | _ => False
section
variable {X : Cx}
theorem b8t {neg : Bool} {f : Value → Value → Sem Value} (ho : OpR X f (rIn X.K neg)) : OpR3 X f (rIn3 neg) := by
 intro pins s σ H x y v u Q2 I rx ry q
 obtain ⟨a, b, M, Q, r1, r2, hh, q, en⟩ := q
 unfold rIn3 at q
 obtain ⟨fa, q⟩ := q
 obtain rfl := b6P fa r1
 split at q
 ·obtain ⟨p, xs, rfl, h1, h2⟩ := a1l r2
  obtain rfl := a9Y q.1 h2
  refine ho pins s σ H _ _ v u Q2 I rx ry ⟨p, _, rfl, .inr h1, a7f fa, a5D q.1, ?_⟩
  rw [b2Z fa q.1]
  exact en _ _ M H Kp.refl hh a2Q q.2
 ·rename_i p
  split at q
  ·rename_i ts e
   obtain ⟨xs, h1, h2⟩ := hh _ _ e
   obtain rfl := a0o r2
   obtain rfl := a9Y q.1 h2
   refine ho pins s σ H _ _ v u Q2 I rx ry ⟨p, _, rfl, (.inl (.inl (.inl h1))), a7f fa, a5D q.1, ?_⟩
   rw [b2Z fa q.1]
   exact en _ _ M H Kp.refl hh a2Q q.2
  ·exact q.elim
 ·exact q.elim
theorem a8K : OpR3 X (compareOp .NotIn) (rIn3 true) := b8t a8J
end
section
variable {X : Cx} {Ha : Hp} {body : List Stmt} {pos : Pos}
end
end L2
namespace L2
open PySem PySem.Spec PyProof.Rows
open AutoSeq1 (wpAny_loadPart')
section
variable {prog : Program} {w : World} {A : Around} {E : Value → Shared → Prop} {s : Shared}
end
section
variable {X : Cx}
end
theorem a8v {es rest : List Expr} {x1} {pos : Pos} {env : Env} : starEach (.Tuple es x1 pos :: rest) env = (false, eval (.Tuple es x1 pos) env) :: starEach rest env := rfl
theorem a6h {X : Cx} {es1 es : List Expr} {x1} {pos : Pos} {ta : TE3} {t : TA3} (ha : HE X (.Tuple es1 x1 pos) ta) (hr : HA X es t) : HA X (.Tuple es1 x1 pos :: es) (b3d ta t) := a0a ha hr (hs := a8v)
end L2
namespace L2
open PySem PySem.Spec PyProof.Rows
section
variable {prog : Program} {w : World} {A : Around} {E : Value → Shared → Prop} {s : Shared}
end
section
variable {X : Cx}
theorem a8D {K : PySem.W.Frag} {H : Hp} : ∀ {ns : List Int} {vs : List V}, Reps K H vs (ns.map .int) → vs = ns.map V.int
 | [], _, r => by unfold Reps at r; exact r
 | n :: ns, _, r => by
   rw [List.map_cons] at r
   unfold Reps at r
   obtain ⟨v, w, rfl, r1, r2⟩ := r
   obtain rfl := a0n r1
   rw [a8D r2]
   rfl
theorem a8Z {K : PySem.W.Frag} {H : Hp} : ∀ ns : List Int, Reps K H (ns.map V.int) (ns.map .int)
 | [] => by rw [List.map_nil, List.map_nil]; unfold Reps; rfl
 | n :: ns => by
   rw [List.map_cons, List.map_cons]
   unfold Reps
   exact ⟨_, _, rfl, a0i, a8Z ns⟩
end
theorem a5m {α : Type} {us : List α} {P : List α → Prop} (hl : us.length = 1) (h : ∀ a : α, P [a]) : P us := by
 obtain ⟨a, rfl⟩ := List.length_eq_one_iff.mp hl
 exact h a
theorem a6r {α : Type} {us : List α} {P : List α → Prop} (hl : us.length = 2) (h : ∀ a b : α, P [a, b]) : P us := by
 obtain ⟨a, r, rfl⟩ := List.exists_cons_of_length_eq_add_one hl
 exact a5m (P := fun r => P (a :: r)) (Nat.succ.inj hl) (h a)
theorem b8D {α : Type} {us : List α} {P : List α → Prop} (hl : us.length = 3) (h : ∀ a b c : α, P [a, b, c]) : P us := by
 obtain ⟨a, r, rfl⟩ := List.exists_cons_of_length_eq_add_one hl
 exact a6r (P := fun r => P (a :: r)) (Nat.succ.inj hl) (h a)
theorem c1W {α : Type} {us : List α} {P : List α → Prop} (hl : us.length = 4) (h : ∀ a b c d : α, P [a, b, c, d]) : P us := by
 obtain ⟨a, r, rfl⟩ := List.exists_cons_of_length_eq_add_one hl
 exact b8D (P := fun r => P (a :: r)) (Nat.succ.inj hl) (h a)
section
variable {X : Cx}
end
section
variable {X : Cx}
theorem a6A : ∀ {ns : List Int} {its : List Value}, Vals (ns.map V.int) its → IntsAre its ns
 | [], _, h => by cases h; exact .nil
 | n :: ns, _, h => by
   cases h with
   | cons r h =>
     obtain ⟨t, rfl⟩ := r
     exact .cons _ _ (a6A h)
theorem a8e (hc : X.calm = true) : a6z X (.builtin "sum") (fun xs H Q => ∃ (p : Addr) (ns : List Int), xs = [.ref p] ∧ SqL X.K H p (ns.map V.int) ∧ Q (.int ns.sum) H) := by
 intro pins s σ H xs us Q I r h
 obtain ⟨p, ns, rfl, hq, q⟩ := h
 obtain ⟨u, rfl, rx⟩ := a3n r
 cases rx
 obtain ⟨its, r', pl, hz⟩ := I.list hq
 have hi := a6A r'
 obtain ⟨ys, e⟩ := hi.allInts.items
 have hl := pl.isList
 rw [e] at hl
 refine sum_intListG (I.ok.hd hc) hl fun h' tk t' hk => ?_
 have e2 : preSum (numAt ys) ys.size = ns.sum := by
  rw [preSum_eq, List.take_of_length_le (by simp), ← nums_intItems, ← e]
  show (numsOf its).sum = _
  rw [hi.numsOf]
 rw [e2]
 have I1 : Inv X pins σ H { s with heap := h', toks := tk } := I.kept hk
 exact ⟨.int _, H, I1, ⟨_, rfl⟩, q⟩
noncomputable def b7O : List T → MH → VK3 → Prop := fun xs M Q => match xs with
 | [.adr p] => (match M p with | some (.lst ts) => (match a5n ts with | some ns => Q (.int ns.sum) M | none => False) | _ => False)
 | _ => False
theorem a9z (hc : X.calm = true) : a3k X (.builtin "sum") b7O := by
 intro pins s σ H vs us Q2 I r h
 obtain ⟨xs, M, Q, rr, hh, q, en⟩ := h
 unfold b7O at q
 split at q
 ·obtain ⟨v, rfl, r1⟩ := a2r rr
  obtain rfl := a0o r1
  split at q
  ·rename_i ts e0
   obtain ⟨ys, g1, g2⟩ := hh _ _ e0
   split at q
   ·rename_i ns eb
    obtain rfl := a3G eb
    obtain rfl := Reps.ints g2
    exact a8e hc pins s σ H _ us Q2 I r ⟨_, ns, rfl, SqL.of g1, en _ _ M H Kp.refl hh a0i q⟩
   ·exact q.elim
  ·exact q.elim
 ·exact q.elim
end
end L2
namespace L2
open PySem PySem.Spec PyProof.Rows LM
section
variable {κ : Type} [DecidableEq κ]
end
section
variable {X : Cx}
end
noncomputable def g2 (tab : List (List Int)) (a b : Int) : Int := gI (tab.getD a.toNat []) b
noncomputable def InM (m c : Int) : Prop := 0 ≤ c ∧ c < m
structure TabQ (tab : List (List Int)) : Prop where
 l1 : 1 ≤ tab.length
 rows : ∀ r ∈ tab, r.length = tab.length
 idem : ∀ c, InM tab.length c → g2 tab c c = c
 col : ∀ c, InM tab.length c → (tab.map fun r => gI r c).Perm (a0g tab.length)
 third : ∀ a b c, InM tab.length a → InM tab.length b → InM tab.length c → g2 tab (g2 tab a b) c = g2 tab (g2 tab a c) (g2 tab b c)
structure TabOK (tab : List (List Int)) : Prop extends TabQ tab where
 l7 : tab.length ≤ 7
instance {tab : List (List Int)} : Coe (TabOK tab) (TabQ tab) := ⟨TabOK.toTabQ⟩
theorem a6G {m c : Int} : c ∈ a0g m ↔ InM m c := ⟨a3D, fun h => a6F h.1 h.2⟩
theorem a7s {n p q : Int} (hp : LetOK n p) (hq : LetOK n q) (s : p * q > 0) (d : (p - q).natAbs = 1) : RelW n [p, q, -p] [-q, p, q] := by
 have x1 := RelW.ctx (w := [-q, - -q]) (v := []) [] [p, q, -p] .nil (.three hp hq hp.neg) (RelW.out hq.neg)
 have x2 := RelW.ctx (w := [q, p, q]) (v := [p, q, p]) [-q] [-p] (.one hq.neg) (.one hp.neg) (RelW.three hp hq s d).symm
 have x3 := RelW.ctx (w := [p, -p]) (v := []) [-q, p, q] [] (.three hq.neg hp hq) .nil (RelW.out hp)
 rw [Int.neg_neg] at x1
 exact x1.symm.trans (x2.trans x3)
theorem a4F {a l : Int} (h : 0 < l) : sgnL a l = (a.natAbs : Int) := if_neg (by lia)
theorem a4G {a l : Int} (h : l < 0) : sgnL a l = -(a.natAbs : Int) := if_pos h
theorem a9Z {n p q r : Int} (hp : LetOK n p) (hq : LetOK n q) (hr : LetOK n r) (h : b0K p q r) : RelW n [p, q, r] [sgnL q r, sgnL p q, sgnL q p] := by
 obtain ⟨h1, h2, h3⟩ := h
 have ne1 := hp.ne
 have ne2 := hq.ne
 have pos : ∀ {x y : Int}, 0 < x → 0 < y → x * y > 0 := fun a b => Int.mul_pos a b
 have neg : ∀ {x y : Int}, x < 0 → y < 0 → x * y > 0 := fun a b => Int.mul_pos_of_neg_of_neg a b
 rcases (show r = p ∨ r = -p by lia) with rfl | rfl
 ·have h3 := h3 rfl
  rcases Int.lt_or_le 0 r with z | z
  ·have z2 := h3.mp z
   rw [a4F z, a4F z2, show (q.natAbs : Int) = q by lia, show (r.natAbs : Int) = r by lia]
   exact .three hp hq (pos z z2) (by lia)
  ·have z2 : q < 0 := by
    rcases Int.lt_or_le 0 q with y | y
    ·exact absurd (h3.mpr y) (by lia)
    ·lia
   rw [a4G (show r < 0 by lia), a4G z2, show -(q.natAbs : Int) = q by lia, show -(r.natAbs : Int) = r by lia]
   exact .three hp hq (neg (by lia) z2) (by lia)
 ·rcases Int.lt_or_le 0 p with z | z
  ·rw [a4G (show -p < 0 by lia), a4F z]
   rcases Int.lt_or_le 0 q with y | y
   ·rw [a4F y, show (q.natAbs : Int) = q by lia, show (p.natAbs : Int) = p by lia]
    exact a7s hp hq (pos z y) (by lia)
   ·rw [a4G (show q < 0 by lia)]
    have := (a7s (p := q) (q := -p) hq hp.neg (neg (by lia) (by lia)) (by lia)).symm
    rw [Int.neg_neg] at this
    rw [show -(q.natAbs : Int) = q by lia, show -(p.natAbs : Int) = -p by lia, show (q.natAbs : Int) = -q by lia]
    exact this
  ·rw [a4F (show 0 < -p by lia), a4G (show p < 0 by lia)]
   rcases Int.lt_or_le 0 q with y | y
   ·rw [a4F y]
    have := (a7s (p := q) (q := -p) hq hp.neg (pos (by lia) (by lia)) (by lia)).symm
    rw [Int.neg_neg] at this
    rw [show (q.natAbs : Int) = q by lia, show (p.natAbs : Int) = -p by lia]
    exact this
   ·rw [a4G (show q < 0 by lia)]
    rw [show (q.natAbs : Int) = -q by lia, show (p.natAbs : Int) = -p by lia, Int.neg_neg, Int.neg_neg]
    exact a7s hp hq (neg (by lia) (by lia)) (by lia)
theorem b0a {n : Int} {A B w v : List Int} (hA : WordOK n A) (hB : WordOK n B) (h : RelW n w v) : RelW n (A ++ (w ++ B)) (A ++ (v ++ B)) := by
 have := RelW.ctx A B hA hB h
 rwa [List.append_assoc, List.append_assoc] at this
theorem b9b {n : Int} {w r : List Int} {s : Stp} (hw : WordOK n w) (h : aft n w s = some r) : RelW n w r := by
 cases s with
 | far a =>
   replace h : (if a4v w a = true then some (a3Q w a.toNat) else none) = some r := h
   split at h
   ·rename_i c
    obtain rfl := Option.some.inj h
    have c0 := c
    unfold a4v at c
    simp only [Bool.and_eq_true, decide_eq_true_eq] at c
    obtain ⟨A, p, q, B, rfl, hA⟩ := cut2 c.1.1 c.1.2
    have c2 := c.2
    rw [a3O c.1.1 hA, a3V c.1.1 hA] at c2
    rw [a4B hA]
    have hp := hw p (by simp)
    have hq := hw q (by simp)
    exact b0a (w := [p, q]) (v := [q, p]) hw.appl (fun x hx => hw x (by simp [hx])) (.far hp hq (by lia))
   ·cases h
 | three a =>
   replace h : (if a2K w a = true then some (a4d w a) else none) = some r := h
   split at h
   ·rename_i c
    obtain rfl := Option.some.inj h
    have hb : 0 ≤ a ∧ a < (w.length : Int) - 2 := by
     unfold a2K at c
     simp only [Bool.and_eq_true, decide_eq_true_eq] at c
     exact c.1
    obtain ⟨A, p, q, r, B, rfl, hA⟩ := cut3 hb.1 hb.2
    have hp := hw p (by simp)
    have hq := hw q (by simp)
    have hr := hw r (by simp)
    rw [a8d hb.1 hA hp.ne hq.ne] at c
    rw [a5E hb.1 hA]
    exact b0a (w := [p, q, r]) (v := [_, _, _]) hw.appl (fun x hx => hw x (by simp [hx])) (a9Z hp hq hr c)
   ·cases h
 | out a =>
   replace h : (if a4u w a = true then some (outL w a) else none) = some r := h
   split at h
   ·rename_i c
    obtain rfl := Option.some.inj h
    unfold a4u at c
    simp only [Bool.and_eq_true, decide_eq_true_eq] at c
    obtain ⟨A, p, q, B, rfl, hA⟩ := cut2 c.1.1 c.1.2
    have c2 := c.2
    rw [a3O c.1.1 hA, a3V c.1.1 hA] at c2
    have e : outL (A ++ p :: q :: B) a = A ++ ([] ++ B) := by
     unfold outL
     rw [← hA, show (a + 2).toNat = A.length + 2 by lia, List.take_left]
     congr 1
     rw [← List.drop_drop, List.drop_left]; rfl
    rw [e]
    obtain rfl : q = -p := by lia
    exact b0a (w := [p, -p]) (v := []) hw.appl (fun x hx => hw x (by simp [hx])) (.out (hw p (by simp)))
   ·cases h
 | inn a l =>
   replace h : (if inB n w a l = true then some (inL w a l) else none) = some r := h
   split at h
   ·rename_i c
    obtain rfl := Option.some.inj h
    unfold inB at c
    simp only [Bool.and_eq_true, decide_eq_true_eq, a4n] at c
    have := (RelW.ctx (w := [l, -l]) (v := []) (w.take a.toNat) (w.drop a.toNat) (WordOK.take hw _) (WordOK.drop hw _) (RelW.out c.2)).symm
    rw [List.append_nil, List.take_append_drop] at this
    exact this
   ·cases h
theorem b1T {n : Int} : ∀ {L : List Stp} {w r : List Int}, WordOK n w → aftL n w L = some r → RelW n w r
 | [], w, r, hw, h => by obtain rfl := Option.some.inj h; exact .refl _
 | s :: L, w, r, hw, h => by
   rw [b4Z] at h
   cases e : aft n w s with
   | none => rw [e] at h; cases h
   | some v => rw [e] at h; exact (b9b hw e).trans (b1T (c1k hw e).1 h)
theorem folL_append (u v : List Int) (p : Int) : folL (u ++ v) p = folL v (folL u p) := List.foldl_append
section
variable {X : Cx}
end
theorem a5J : ∀ (l r : List Int), l.Nodup → (∀ x ∈ l, x ∈ r) → r.length ≤ l.length → l.Perm r
 | [], r, _, _, h => by
   rw [List.length_nil] at h
   rw [List.eq_nil_of_length_eq_zero (by lia : r.length = 0)]
 | x :: l, r, nd, hs, h => by
   have hx := hs x List.mem_cons_self
   have nd' := List.nodup_cons.mp nd
   refine (List.Perm.cons x (a5J l (r.erase x) nd'.2 (fun y hy => ?_) ?_)).trans (List.perm_cons_erase hx).symm
   ·exact (List.mem_erase_of_ne (fun z => nd'.1 (by rw [← z]; exact hy))).mpr (hs y (List.mem_cons_of_mem _ hy))
   ·rw [List.length_erase_of_mem hx]
    rw [List.length_cons] at h
    lia
theorem c2c {us : List Int} {m : Int} (hp : us.Perm (a0g m)) {a : Int} (ha : InM m a) : InM m (gI us a) ∧ ((us.idxOf (gI us a) : Nat) : Int) = a := by
 have e : us.length = m.toNat := by rw [hp.length_eq, a0e]
 have hl : a.toNat < us.length := by have := ha.1; have := ha.2; lia
 have hg : gI us a = us[a.toNat] := by
  unfold gI
  rw [List.getD_eq_getElem?_getD, List.getElem?_eq_getElem hl]; rfl
 have nd : us.Nodup := hp.nodup_iff.mpr (a3p m)
 rw [hg]
 refine ⟨a6G.mp (hp.mem_iff.mp (List.getElem_mem hl)), ?_⟩
 have hi := List.idxOf_lt_length_of_mem (List.getElem_mem hl)
 have h2 : us[us.idxOf us[a.toNat]] = us[a.toNat] := List.getElem_idxOf hi
 have q : us.idxOf us[a.toNat] = a.toNat := by
  have pw := List.pairwise_iff_getElem.mp nd
  rcases Nat.lt_trichotomy (us.idxOf us[a.toNat]) a.toNat with z | z | z
  ·exact absurd h2 (pw _ _ hi hl z)
  ·exact z
  ·exact absurd h2.symm (pw _ _ hl hi z)
 rw [q]
 exact Int.toNat_of_nonneg ha.1
section
variable {prog : Program} {w : World} {A : Around} {E : Value → Shared → Prop} {s : Shared}
end
section
variable {X : Cx} {pos : Pos}
end
section
variable {X : Cx} {Ha : Hp} {a b : Expr} {ta tb : TE3} {tA : TT3} {pos : Pos}
end
section
variable {X : Cx} {Ha : Hp}
end
section
variable {X : Cx} {pos : Pos}
end
section
variable {X : Cx}
end
section
variable {X : Cx}
end
section
variable {X : Cx} {e : Expr} {te : TE3} {p p2 pos pos2 : Pos}
end
theorem a9g {L : List Int} {i : Nat} (hi : i < L.length) : L.getD i 0 ∈ L := by
 rw [List.getD_eq_getElem?_getD, List.getElem?_eq_getElem hi]; exact List.getElem_mem hi
noncomputable def insA (x : Int) : List Int → List (List Int)
 | [] => [[x]]
 | y :: l => (x :: y :: l) :: (insA x l).map (y :: ·)
noncomputable def b3B : List Int → List (List Int)
 | [] => [[]]
 | x :: l => (b3B l).flatMap (insA x)
theorem b1o (x : Int) : ∀ s t : List Int, s ++ x :: t ∈ insA x (s ++ t)
 | [], [] => .head _
 | [], y :: t => .head _
 | y :: s, t => .tail _ (List.mem_map.mpr ⟨_, b1o x s t, rfl⟩)
theorem a6N : ∀ {l r : List Int}, r.Perm l → r ∈ b3B l
 | [], r, h => by rw [h.eq_nil]; exact .head _
 | x :: l, r, h => by
   obtain ⟨s, t, rfl⟩ := List.append_of_mem (h.mem_iff.mpr (.head _))
   have h2 : (s ++ t).Perm l := (List.perm_middle.symm.trans h).cons_inv
   exact List.mem_flatMap.mpr ⟨_, a6N h2, b1o x s t⟩
section
variable {X : Cx}
end
section
variable {P : Program} {w : World} {A : Around} {E : Value → Shared → Prop} {s : Shared}
theorem a8U {d : Addr} {o : Obj} {es : Array DictEntry} {ep : Nat} {Q : Value → Shared → Prop} (hd : (d == sysModules) = false) (ho : s.heap.get? d = some o) (hc : o.ExactDict) (hdat : o.data = .dict es ep)
  (hQ : ∀ s1 it, it = s.heap.objs.size → s1.toks = s.toks → s1.gens = s.gens → s1 = { s with heap := s.heap.push { cls := .type "dict_keyiterator", data := .fields #[.ref d, .int 0 0, .int es.size 0, .int ep 0] } } → Q (.ref it) s1) : wpAny (model P w) A (pyIter (.ref d)) Q E s := by
 have hT : s.TypeIs (.ref d) "dict" := ⟨o, ho, hc.1⟩
 refine wpAny_pyIter_slot hT F.slot_dict_iter (wpAny_call_entry F.slot_dict_iter hT F.entry_dict_iter (by
  unfold Builtin.«dict.__iter__»; refine wpAny_bind ?_; unfold Builtin.Dict.dictSlotNone
  refine wpAny_bind (wpAny_notOrdered_dict hT (by
   show wpAny _ _ (pure (Value.ref d)) _ _ s; refine wpAny_pure ?_
   show wpAny _ _ (Builtin.Dict.showsAll d >>= _) _ _ s; unfold Builtin.Dict.showsAll; rw [if_neg (fun z => by rw [hd] at z; cases z)]
   refine wpAny_bind (wpAny_pure (wpAny_bind (wpAny_dictEntries ho hdat (wpAny_bind (wpAny_dictEpoch ho hdat (wpAny_bind (wpAny_newObj_type (wpAny_pure ⟨_, rfl, "dict_keyiterator", _, ⟨_, Heap.get?_push_size _ rfl, rfl⟩, F.slot_dict_keyiterator_next.lookup, ?_⟩))))))))
   exact hQ _ _ rfl rfl rfl (by simp [rawInt])))) (F.args_dict_iter_1 _))
theorem b0q {it d : Addr} {o : Obj} {es : Array DictEntry} {ep i : Nat} {e : DictEntry} {Q : Option Value → Shared → Prop} (hit : s.heap.IsKeyIter it d i es.size ep) (ho : s.heap.get? d = some o) (hdat : o.data = .dict es ep) (hx : es[i]? = some e)
  (hQ : ∀ h', h'.IsKeyIter it d (i + 1) es.size ep → Heap.SameBut it s.heap h' → Q (some e.key) { s with heap := h' }) : wpAny (model P w) A (pyNext (.ref it)) Q E s := by
 obtain ⟨oi, hoi, hci, hdi⟩ := id hit; unfold pyNext
 refine wpAny_bind (wpAny_attempt (wpAny_callSpecial?_slot (name := Str.ofString "__next__") hit.typeIs F.slot_dict_keyiterator_next (wpAny_call_entry F.slot_dict_keyiterator_next hit.typeIs F.entry_dict_keyiterator_next (wpAny_bind (wpAny_pure (wpAny_bind (wpAny_bind ?_)))) (F.args_dict_keyiterator_next_1 _))))
 first | refine wpAny_bind (wpAny_typeNameOfWhole_keyiter hit.typeIs (wpAny_pure (wpAny_fieldsOf hoi hdi ?_ |> wpAny_bind))) | refine wpAny_bind (wpAny_typeNameOf_keyiter hit.typeIs (wpAny_pure (wpAny_fieldsOf hoi hdi ?_ |> wpAny_bind)))
 simp only [show Builtin.Dict_items.ownsTuple "dict_keyiterator" = false by decide, Bool.false_eq_true, if_false]
 show wpAny _ _ (if (Value.ref d == Value.none) = true then _ else _) _ _ s; rw [if_neg (fun z => by cases z)]
 refine wpAny_bind (wpAny_pure (wpAny_bind (wpAny_dictEntries ho hdat ?_))); rw [if_neg (by simp)]
 refine wpAny_bind (wpAny_pure (wpAny_bind (wpAny_dictEpoch ho hdat ?_))); rw [if_neg (by simp)]; refine wpAny_pure ?_
 simp only [show ¬ ((i : Int) < 0) from by lia, if_false, Int.toNat_natCast, hx]
 refine wpAny_bind ?_
 first | refine wpAny_bind (wpAny_typeNameOfWhole_keyiter hit.typeIs (wpAny_pure (wpAny_bind (wpAny_isOneOf_keyiter hit.typeIs ?_)))) | refine wpAny_bind (wpAny_typeNameOf_keyiter hit.typeIs (wpAny_pure (wpAny_bind (wpAny_isOneOf_keyiter hit.typeIs ?_))))
 show wpAny _ _ (setField (.ref it) 1 (rawInt ((i : Int) + 1)) >>= _) _ _ s; refine wpAny_bind (wpAny_setField hoi hdi (by simp) ?_)
 have hit' : (s.heap.update it (Obj.mapFields (·.setIfInBounds 1 (rawInt ((i : Int) + 1))))).IsKeyIter it d (i + 1) es.size ep := ⟨_, Heap.get?_update_self _ hoi (Obj.isFreed_of_fields (Obj.data_mapFields hdi _)), (Obj.cls_mapFields ..).trans hci, by rw [Obj.data_mapFields hdi]; simp [rawInt]⟩
 refine wpAny_bind (wpAny_holding (wpAny_bind (wpAny_isOneOf_keyiter (s := { s with heap := s.heap.update it (Obj.mapFields (·.setIfInBounds 1 (rawInt ((i : Int) + 1)))) }) hit'.typeIs ?_)))
 show wpAny _ _ (pure e.key) _ _ _; exact wpAny_pure (wpAny_pure ⟨_, rfl, wpAny_pure (hQ _ hit' (Heap.SameBut.update ..))⟩)
theorem b0p {it d : Addr} {o : Obj} {es : Array DictEntry} {ep i : Nat} {Q : Option Value → Shared → Prop} (hh : A.handled = none) (hit : s.heap.IsKeyIter it d i es.size ep) (ho : s.heap.get? d = some o) (hdat : o.data = .dict es ep) (hx : es[i]? = none)
  (hQ : ∀ h', Heap.ExtBut it s.heap h' → Q none { s with heap := h' }) : wpAny (model P w) A (pyNext (.ref it)) Q E s := by
 obtain ⟨oi, hoi, hci, hdi⟩ := id hit; unfold pyNext
 refine wpAny_bind (wpAny_attempt (wpAny_callSpecial?_slot (name := Str.ofString "__next__") hit.typeIs F.slot_dict_keyiterator_next (wpAny_call_entry F.slot_dict_keyiterator_next hit.typeIs F.entry_dict_keyiterator_next (wpAny_bind (wpAny_pure (wpAny_bind (wpAny_bind ?_)))) (F.args_dict_keyiterator_next_1 _))))
 first | refine wpAny_bind (wpAny_typeNameOfWhole_keyiter hit.typeIs (wpAny_pure (wpAny_fieldsOf hoi hdi ?_ |> wpAny_bind))) | refine wpAny_bind (wpAny_typeNameOf_keyiter hit.typeIs (wpAny_pure (wpAny_fieldsOf hoi hdi ?_ |> wpAny_bind)))
 simp only [show Builtin.Dict_items.ownsTuple "dict_keyiterator" = false by decide, Bool.false_eq_true, if_false]
 show wpAny _ _ (if (Value.ref d == Value.none) = true then _ else _) _ _ s; rw [if_neg (fun z => by cases z)]
 refine wpAny_bind (wpAny_pure (wpAny_bind (wpAny_dictEntries ho hdat ?_))); rw [if_neg (by simp)]
 refine wpAny_bind (wpAny_pure (wpAny_bind (wpAny_dictEpoch ho hdat ?_))); rw [if_neg (by simp)]; refine wpAny_pure ?_
 simp only [show ¬ ((i : Int) < 0) from by lia, if_false, Int.toNat_natCast, hx]
 refine wpAny_bind ?_
 refine wpAny_bind (wpAny_typeNameOfWhole_keyiter hit.typeIs (wpAny_pure ?_))
 show wpAny _ _ (setField (.ref it) 0 .none >>= _) _ _ s; refine wpAny_bind (wpAny_setField hoi hdi (by simp) ?_)
 show wpAny _ _ (newExc (.type "StopIteration") [] >>= _) _ _ _; refine wpAny_bind ?_
 simp only [newExc, newTuple]; refine wpAny_bind (wpAny_newObj_type ?_ (by size_fits))
 refine wpAny_bind (m := firstArgMember _ _) (wpAny_of_eq (a := Value.none) (by first | rfl | (simp only [firstArgMember]; rfl)) (wpAny_newObj_type ?_ (by size_fits)))
 simp only [raiseNew]; refine wpAny_bind (wpAny_handled ?_); rw [show A.in1.handled = none from hh]
 refine wpAny_bind (wpAny_pure (wpAny_throw ?_)); refine wpAny_bind (wpAny_isInstance (T := "StopIteration") (b := true) ⟨_, Heap.get?_push_size _ rfl, rfl⟩ isSubtype_stop (wpAny_pure (hQ _ (((Heap.SameBut.update ..).extBut.push _).push _))))
end
theorem a8G {α β : Type} {F : α → β → Prop} : ∀ {xs : List α} {ys : List β} {i : Nat} {x : α}, Paired F xs ys → xs[i]? = some x → ∃ y, ys[i]? = some y ∧ F x y
 | _, _, _, _, .nil, e => by simp at e
 | _, _, 0, _, .cons r _, e => by simp at e; subst e; exact ⟨_, rfl, r⟩
 | _, _, i + 1, x, .cons _ t, e => by
   obtain ⟨u, h1, h2⟩ := a8G (i := i) (x := x) t (by simpa using e)
   exact ⟨u, by simpa using h1, h2⟩
theorem b3S {κ : Type} {K : PySem.W.Frag} {H : Hp} : ∀ {xs : List (κ × V)} {kvs : List (κ × T)} {i : Nat} {kv : κ × T}, KRep K H xs kvs → kvs[i]? = some kv → ∃ x, xs[i]? = some x ∧ x.1 = kv.1
 | [], [], _, _, _, e => by simp at e
 | p :: r, q :: u, 0, kv, h, e => by simp at e; subst e; exact ⟨p, rfl, h.1⟩
 | p :: r, q :: u, i + 1, kv, h, e => by
   obtain ⟨x, a, b⟩ := b3S (i := i) h.2.2 (by simpa using e)
   exact ⟨x, by simpa using a, b⟩
 | [], q :: u, _, _, h, _ => h.elim
 | p :: r, [], _, _, h, _ => h.elim
section
variable {X : Cx}
end
section
variable {X : Cx}
end
theorem b1g {n : Int} {w : List Int} (hw : WordOK n w) : IsP n (a1B n w) := by
 refine a5J _ _ ?_ (fun x hx => ?_) (by rw [a7z, a0e]; exact Nat.le_refl _)
 ·rw [a6K n w hw]
  refine List.pairwise_map.mpr ((a3p n).imp_of_mem fun {a b} ha hb ne z => ne ?_)
  have z2 := a6U w a
  rw [z, a6U w b] at z2
  exact z2.symm
 ·have := b2q hw hx
  exact a6F this.1 this.2
section
variable {P : Program} {w : World} {A : Around} {E : Value → Shared → Prop} {s : Shared}
theorem a8Q : typeLookup (.type "tuple") "keys" = pure none := by rw [typeLookup_type, builtinLookup_eq_fast]; kernel_rfl
set_option maxRecDepth 8000 in
theorem a6g {a : Addr} {xs : Array Value} {k : Nat} {sl : Array (Option Value)} {Q : Option Value → Shared → Prop} (hx : s.heap.get? a = some { cls := .type "tuple", dict := none, data := .seq xs k, slots := sl }) (hA : A.handled = none)
  (h : ∀ h' tk, (∀ b o, s.heap.get? b = some o → h'.get? b = some o) → Q none { s with heap := h', toks := tk }) : wpAny (model P w) A (getAttr? (.ref a) "keys") Q E s := by
 obtain ⟨hp, g, d, tk, os⟩ := s
 have hT : ∀ tk', (⟨hp, g, d, tk', os⟩ : Shared).TypeIs (.ref a) "tuple" := fun _ => ⟨_, hx, rfl⟩
 have f1 := sub_AttributeError; have f3 := F.slot_tuple_getattribute.lookup; have f4 := F.slot_tuple_getattribute.bind (.ref a); have f5 := am_tuple_getattr_none
 have hname : (["__module__", "__name__", "__qualname__", "__doc__", "__annotations__"] : List Str).contains "keys" = false := by decide +kernel
 unfold getAttr? getAttrBy? getAttrBy
 repeat (any_goals (first | exact hT _ | assumption | ((with_reducible show wpAny _ _ (call (Value.builtin "tuple.__getattribute__") _ _) _ _ _); refine call_meets F.slot_tuple_getattribute (hT _) am_entry_tuple_getattribute (F.args_tuple_getattribute_2 _ _) (meets_getattribute_miss_tuple a xs k sl "keys" _ a8Q hname (by rw [sizeLine_eq]; decide +kernel)) ⟨hx, hA, fun h' tk' e hx' => ?_⟩) | wp_step))
 obtain ⟨t', u', he⟩ := hx'.there
 show wpAny _ _ (getattributeRaised _ _ _ _ _ _ _) _ _ _
 unfold getattributeRaised
 repeat (any_goals (first | wp_step | assumption))
 exact h _ _ hx'.of.keeps
theorem a5K : entryFor table "dict.update.loop" = some Builtin.«dict.update.loop» := entryFor_of_tree (by kernel_rfl)
theorem a3b : plainId "dict.update.loop" = true := by decide +kernel
theorem a6J {K : Type} [DecidableEq K] {knd : KeyKind P w K} {I d : Addr} {fp wr : List Addr} {n : Nat} {V : Nat → Value → Prop} {St : Nat → Heap → Prop} (W : Walks P w A.in1 I fp wr n V St) (hdf : d ∉ fp) (res : Value) (ks : List (K × Value)) (hn : ks.length = n) (hz : n ≤ sizeLine) (h0 : Heap)
  (hV : ∀ i v, V i v → ∃ p k x key, v = .ref p ∧ ks[i]? = some (k, x) ∧ knd.is k key = true ∧ h0.IsTuple p #[key, x] ∧ p ≠ d ∧ p ∉ wr) {R : Result → Shared → Prop} :
  ∀ (m i : Nat) (s : Shared), n - i = m → i ≤ n → St i s.heap → s.heap.DictOf knd d (merged [] (ks.take i)) → (∀ b o, b ≠ d → b ∉ wr → h0.get? b = some o → s.heap.get? b = some o) →
    (∀ h' tk, h'.DictOf knd d (merged [] ks) → (∀ b o, b ≠ d → b ∉ wr → h0.get? b = some o → h'.get? b = some o) → R (.ok (.ret res)) { s with heap := h', toks := tk }) →
    codeAny (model P w) A (.builtin "dict.update.loop" ⟨[.ref d, .ref I, rawInt i, res], []⟩) R s
 | 0, i, s, hm, hi, st, hd, hk, hR => by
   obtain rfl : i = n := by lia
   refine codeAny_builtin a5K ?_
   rw [Around.under_plainId a3b _]
   show wpAny _ A.in1 (pyNext (.ref I) >>= _) _ _ s
   refine wpAny_bind (W.done s _ _ st fun h' tk hk' => ?_)
   show wpAny _ _ (Builtin.Dict.addKeywords d [] >>= _) _ _ _
   refine wpAny_bind (wpAny_pure (wpAny_pure (hR h' tk ?_ fun b o b1 b2 e => hk' b o b2 (hk b o b1 b2 e))))
   rw [← hn, List.take_length] at hd
   obtain ⟨o, es, ep, g, r⟩ := hd
   exact ⟨o, es, ep, hk' d o (fun z => hdf (W.sub _ z)) g, r⟩
 | m + 1, i, s, hm, hi, st, hd, hk, hR => by
   refine codeAny_builtin a5K ?_
   rw [Around.under_plainId a3b _]
   show wpAny _ A.in1 (pyNext (.ref I) >>= _) _ _ s
   refine wpAny_bind (W.item i s _ _ (by lia) st fun v h' tk hv st' hk' => ?_)
   obtain ⟨p, k, x, key, rfl, ek, hkey, hp, np1, np2⟩ := hV i v hv
   have hd' : h'.DictOf knd d (merged [] (ks.take i)) := by
    obtain ⟨o, es, ep, g, r⟩ := hd
    exact ⟨o, es, ep, hk' d o (fun z => hdf (W.sub _ z)) g, r⟩
   obtain ⟨o, ho, hc, nn, hdat⟩ := hp
   have ho' : h'.get? p = some o := hk' p o np2 (hk p o np1 np2 ho)
   show wpAny _ _ (holding [Value.ref p] _ >>= _) _ _ _
   refine wpAny_bind (wpAny_holding (wpAny_bind (wpAny_tryCatch ?_)))
   unfold Builtin.Dict.pairItems
   refine wpAny_bind (wpAny_typeOf (T := "tuple") ⟨o, ho', hc⟩ ?_)
   rw [if_pos (by decide)]
   refine wpAny_bind (wpAny_seqItems ho' hdat (wpAny_pure ?_))
   show wpAny _ _ (holding [key, x] (dictSet d key x)) _ _ _
   have hle : (merged [] (ks.take i)).length ≤ sizeLine := by
    have e1 := merged_length_le ([] : List (K × Value)) (ks.take i)
    have e2 : (ks.take i).length ≤ ks.length := by rw [List.length_take]; lia
    simp only [List.length_nil] at e1
    lia
   refine wpAny_holding (wpAny_dictSet_pairs (hsz := hle) hkey hd' fun h'' hd'' hs'' => ?_)
   refine wpAny_pure ⟨plainId_quiet a3b _, ?_⟩
   have := a6J W hdf res ks hn hz h0 hV (R := R) m (i + 1) { s with heap := h'', toks := tk + 1 } (by lia) (by lia) (W.frame _ _ _ st' fun b hb o e => ?_) ?_ (fun b o b1 b2 e => ?_) hR
   ·exact this
   ·exact (hs''.2 b (fun z => hdf (z ▸ hb))).trans e
   ·rw [merged_take_succ [] ks i (k, x) ek]; exact hd''
   ·exact (hs''.2 b b1).trans (hk' b o b2 (hk b o b1 b2 e))
end
section
variable {P : Program} {w : World} {A : Around} {E : Value → Shared → Prop} {s : Shared} {K : Type} [DecidableEq K] {knd : KeyKind P w K}
theorem a7Y {o : Addr} {vs : List Value} {kk : Nat} {sl : Array (Option Value)} {ks : List (K × Value)} {Q : Value → Shared → Prop} (ho : s.heap.get? o = some { cls := .type "tuple", dict := none, data := .seq vs.toArray kk, slots := sl }) (hA : A.handled = none)
  (hl : ks.length = vs.length) (hz : vs.length ≤ sizeLine) (hV : ∀ (i : Nat) (v : Value), vs[i]? = some v → ∃ p k x key, v = .ref p ∧ ks[i]? = some (k, x) ∧ knd.is k key = true ∧ s.heap.IsTuple p #[key, x])
  (h : ∀ h' tk, h'.DictOf knd s.heap.objs.size (merged [] ks) → (∀ b u, s.heap.get? b = some u → h'.get? b = some u) → Q (Value.ref s.heap.objs.size) { s with heap := h', toks := tk }) :
  wpAny (model P w) A (call (.type "dict") [.ref o]) Q E s := by
 refine callType_codes (Q₁ := fun obj s₁ => obj = Value.ref s.heap.objs.size ∧ s₁ = { s with heap := s.heap.push { cls := .type "dict", data := .dict #[] } }) F.kt_called_dict (F.kt_typeCall_dict_1 _) F.entry_dict_init (kt_code_dict_new _ ⟨rfl, rfl⟩) ?_
 rintro obj s₁ ⟨rfl, rfl⟩
 have hnew : (s.heap.push { cls := .type "dict", data := .dict #[] }).DictOf knd s.heap.objs.size [] := Heap.DictOf.new s.heap
 have hdo : s.heap.objs.size ≠ o := Nat.ne_of_gt (Heap.lt_size ho)
 have ho' := Heap.get?_push_of_some { cls := .type "dict", data := .dict #[] } ho
 refine ⟨hnew.typeIs, F.args_dict_init_2 _ _, ?_⟩
 unfold Builtin.«dict.__init__» Builtin.Dict.selfAndRest; refine wpAny_bind (wpAny_bind (wpAny_notOrdered_dict hnew.typeIs ?_))
 show wpAny _ _ (pure (s.heap.objs.size, [Value.ref o])) _ _ _; refine wpAny_pure ?_
 show wpAny _ _ (Builtin.Dict.updateFrom "dict.__init__" s.heap.objs.size (.ref o) [] .none) _ _ _; unfold Builtin.Dict.updateFrom
 refine wpAny_bind (wpAny_typeOf (T := "tuple") ⟨_, ho', rfl⟩ ?_); rw [if_pos (by decide)]
 refine wpAny_bind (a6g ho' hA fun h1 tk1 k1 => ?_); rw [if_pos (by rfl)]
 have ho1 := k1 _ _ ho'
 refine wpAny_bind (wpAny_rule (wpAny_bind (wpAny_pyIter_tuple (items := vs.toArray) ⟨_, ho1, rfl, kk, rfl⟩ ?_)))
 have hI : h1.objs.size ≠ o := Nat.ne_of_gt (Heap.lt_size ho1)
 have hd1 : h1.DictOf knd s.heap.objs.size [] := by
  obtain ⟨a, es, ep, g, r⟩ := hnew
  exact ⟨a, es, ep, k1 _ _ g, r⟩
 have hdI : s.heap.objs.size ≠ h1.objs.size := by
  obtain ⟨a, es, ep, g, r⟩ := hd1
  exact Nat.ne_of_lt (Heap.lt_size g)
 have W := Walks.tuple (prog := P) (w := w) (A := A.in1.in1) (by exact hA) h1.objs.size o (Ne.symm hI) vs.toArray
 refine wpAny_pure ⟨plainId_quiet a3b _, a6J (knd := knd) (A := A.in1) (h0 := s.heap) (W := W) (d := s.heap.objs.size) (by simp only [List.mem_cons, List.not_mem_nil, or_false, not_or]; exact ⟨hdI, hdo⟩) _ ks (by simpa using hl) (by simpa using hz) ?_ vs.toArray.size 0 _ rfl (Nat.zero_le _) ⟨⟨_, Heap.get?_push_size _ rfl, rfl, rfl⟩, ⟨_, Heap.get?_push_of_some _ ho1, rfl, kk, rfl⟩⟩ (hd1.push _) (fun b u _ _ e => Heap.get?_push_of_some _ (k1 _ _ (Heap.get?_push_of_some _ e))) fun h' tk hd' hk' => ?_⟩
 ·intro i v hv
  obtain ⟨p, k, x, key, e1, e2, e3, e4⟩ := hV i v (by simpa using hv)
  obtain ⟨ob, g, c⟩ := id e4
  refine ⟨p, k, x, key, e1, e2, e3, e4, Nat.ne_of_lt (Heap.lt_size g), fun z => ?_⟩
  have z2 : p = h1.objs.size := by simpa using z
  exact absurd (Heap.lt_size (k1 _ _ (Heap.get?_push_of_some _ g))) (by rw [z2]; exact Nat.lt_irrefl _)
 ·refine ⟨rfl, h h' tk hd' fun b u e => hk' b u (Nat.ne_of_lt (Heap.lt_size e)) (fun z => ?_) e⟩
  have z2 : b = h1.objs.size := by simpa using z
  exact absurd (Heap.lt_size (k1 _ _ (Heap.get?_push_of_some _ e))) (by rw [z2]; exact Nat.lt_irrefl _)
end
noncomputable def b8o (kv : Key × T) : T := .tup [keyT kv.1, kv.2]
noncomputable def b3s : List T → MH → VK3 → Prop := fun xs M Q => match xs with
 | [.tup ts] => ∃ ks : List (Key × T), ts = ks.map b8o ∧ (ks.map Prod.fst).Nodup ∧ ∀ r, M r = none → Q (.adr r) (updM M r (.dk ks))
 | _ => False
section
variable {X : Cx}
theorem b5w {k : Key} {key : Value} (r : RelV (kV k) key) : a6s k key = true := by
 cases k with
 | inl i => obtain ⟨t, rfl⟩ := r; exact a8X i t
 | inr x => obtain ⟨t, rfl⟩ := r; exact a8W x t
theorem b1e {pins : List (Addr × Obj)} {σ : St} {H : Hp} {s : Shared} (I : Inv X pins σ H s) : ∀ {ks : List (Key × T)} {xs : List V} {its : List Value}, Reps X.K H xs (ks.map b8o) → Vals xs its →
  ∃ (vs : List (Key × Value)) (kv : List (Key × V)), vs.length = its.length ∧ KV kv vs ∧ KRep X.K H kv ks ∧ ∀ (i : Nat) (v : Value), its[i]? = some v → ∃ p k x key, v = .ref p ∧ vs[i]? = some (k, x) ∧ a6s k key = true ∧ s.heap.IsTuple p #[key, x]
 | [], xs, its, r, rv => by
   rw [List.map_nil] at r
   unfold Reps at r
   subst r
   cases rv
   exact ⟨[], [], rfl, .nil, trivial, fun i v e => by simp at e⟩
 | (k, t) :: ks, xs, its, r, rv => by
   rw [List.map_cons] at r
   unfold Reps at r
   obtain ⟨v, w, rfl, r1, r2⟩ := r
   cases rv with
   | @cons _ u _ us h1 h2 =>
     obtain ⟨vs, kv, hl, hk, hr, hat⟩ := b1e I r2 h2
     obtain ⟨p, ys, rfl, g1, g2⟩ := a1l r1
     obtain ⟨y1, y2, rfl, q1, q2⟩ := b7L g2
     obtain rfl := a4L q1
     cases h1
     obtain ⟨js, jv, jt, jz⟩ := I.tuple g1
     cases jv with
     | @cons _ key _ js2 a1 a2 =>
       cases a2 with
       | @cons _ x _ js3 b1 b2 =>
         cases b2
         refine ⟨(k, x) :: vs, (k, y2) :: kv, by rw [List.length_cons, List.length_cons, hl], .cons ⟨rfl, b1⟩ hk, ⟨rfl, q2, hr⟩, fun i v e => ?_⟩
         cases i with
         | zero =>
           simp at e
           subst e
           exact ⟨p, k, x, key, rfl, rfl, b5w a1, jt⟩
         | succ i =>
           obtain ⟨p', k', x', key', e1, e2, e3⟩ := hat i v (by simpa using e)
           exact ⟨p', k', x', key', e1, by simpa using e2, e3⟩
theorem a3t {K : PySem.W.Frag} {H : Hp} : ∀ {kv : List (Key × V)} {ks : List (Key × T)}, KRep K H kv ks → kv.map Prod.fst = ks.map Prod.fst
 | [], [], _ => rfl
 | p :: r, q :: u, h => by rw [List.map_cons, List.map_cons, h.1, a3t h.2.2]
 | [], q :: u, h => h.elim
 | p :: r, [], h => h.elim
theorem a6d (hc : X.calm = true) : a3k X (.type "dict") b3s := by
 intro pins s σ H vs us Q2 I r h
 obtain ⟨xs, M, Q, rr, hh, q, en⟩ := h
 unfold b3s at q
 split at q
 ·rename_i ts
  obtain ⟨ks, rfl, hnd, q⟩ := q
  obtain ⟨v, rfl, r1⟩ := a2r rr
  obtain ⟨p, ys, rfl, g1, g2⟩ := a1l r1
  obtain ⟨u, rfl, rx⟩ := a3n r
  cases rx
  obtain ⟨its, rv, ⟨ob, ho, hcl, hdd, nn, hdat⟩, hz⟩ := I.tuple0 g1
  obtain ⟨vs, kv, hl, hk, hr, hat⟩ := b1e I g2 rv
  have hlen := rv.length
  obtain ⟨c1, c2, c3, c4⟩ := ob
  simp only at hcl hdd hdat
  subst hcl hdd hdat
  have hndv : (vs.map (·.1)).Nodup := by
   have e1 := hk.keys
   have e2 := a3t hr
   rw [← e1]
   exact e2 ▸ hnd
  refine a7Y (knd := a0m X.prog X.w) ho (I.ok.hd hc) hl (by lia) hat fun h' tk hd' hk' => ?_
  rw [merged_nil_of_nodup vs hndv] at hd'
  have hfr : H s.heap.objs.size = none := I.hok.fresh (Nat.le_refl _)
  have hsys : (s.heap.objs.size == sysModules) = false := by
   have := I.big
   simp only [beq_eq_false_iff_ne, ne_eq]
   exact fun z => absurd this (by rw [z]; exact Nat.lt_irrefl _)
  have kvl : kv.length ≤ sizeLine := by
   have := hk.length
   lia
  exact ⟨.ref s.heap.objs.size, _, I.laid (t' := tk) hk' (Nat.le_refl _) (show a1P X.prog X.w _ h' _ (.dK kv) from ⟨kvl, hsys, vs, hk, hd'⟩), rfl, en _ _ _ _ (Kp.new hfr) (hh.newK hfr hr) a2y (q _ (hh.free hfr))⟩
 ·exact q.elim
noncomputable def a7t : List T → MH → VK3 → Prop := fun xs M Q => match xs with
 | [.adr p] => (match M p with | some (.dk kvs) => ∃ ns : List Int, kvs.map Prod.fst = ns.map Sum.inl ∧ ns.length < 64 ∧ ∀ ms : List Int, ms.Perm ns → ms.Pairwise (· ≤ ·) → ∀ r, M r = none → Q (.adr r) (updM M r (.lst (ms.map .int))) | _ => False)
 | _ => False
end
section
variable {P : Program} {w : World} {A : Around} {E : Value → Shared → Prop} {s : Shared}
theorem b0O : ∀ {xs : List V} {us : List Value}, xs.length = us.length → (∀ (i : Nat) (x : V) (u : Value), xs[i]? = some x → us[i]? = some u → RelV x u) → Vals xs us
 | [], [], _, _ => .nil
 | [], u :: us, h, _ => by cases h
 | x :: xs, [], h, _ => by cases h
 | x :: xs, u :: us, h, f => .cons (f 0 x u rfl rfl) (b0O (by rw [List.length_cons, List.length_cons] at h; lia) fun i x' u' h1 h2 => f (i + 1) x' u' (by simpa using h1) (by simpa using h2))
theorem a9U {d : Addr} {kvs : List (Key × Value)} {ep : Nat} {ns : List Int} {Q : Value → Shared → Prop} (hA : A.handled = none) (hd : s.heap.DictAt (a0m P w) d kvs ep) (lo : (d == sysModules) = false) (hk : kvs.map (·.1) = ns.map Sum.inl) (h64 : ns.length < 64)
  (h : ∀ (h1 h' : Heap) (tk : Nat) (out : Array Value) (ns' : List Int), (∀ b u, s.heap.get? b = some u → h1.get? b = some u) → (∀ b u, h1.get? b = some u → h'.get? b = some u) → (∃ e, h'.get? h1.objs.size = some (seqObj "list" out e)) → IntsAre out.toList ns' → ns'.Perm ns → ns'.Pairwise (· ≤ ·) → Q (.ref h1.objs.size) { s with heap := h', toks := tk }) :
  wpAny (model P w) A (call (.builtin "sorted") [.ref d]) Q E s := by
 have hl : kvs.length = ns.length := by
  have := congrArg List.length hk
  rwa [List.length_map, List.length_map] at this
 refine Calls.call_function_entry kind_sorted plain_sorted entry_sorted (args_sorted1 _) ?_
 unfold Builtin.«sorted»
 refine wpAny_bind (m := checkCount "sorted" 1 1 _) (wpAny_pure (wpAny_bind (PySem.W.kdu_collect (A := A.in1) (PySem.W.kdl_dict (knd := a0m P w) (kvs := kvs) (ep := ep) lo) hA hd (by rw [hl, sizeLine_eq]; lia) fun h' tk acc hkp hacc => ?_)))
 obtain ⟨hsz, hat⟩ := hacc
 have hI : IntsAre acc.toList ns := a6P (b0O (by rw [List.length_map]; exact (hl.symm.trans hsz.symm).trans Array.length_toList.symm) fun i x u h1 h2 => by
  obtain ⟨k, y, e1, e2⟩ := hat i u (by rw [← Array.getElem?_toList]; exact h2)
  have e3 : (kvs.map (·.1))[i]? = some k := by rw [List.getElem?_map, e1]; rfl
  rw [hk, List.getElem?_map] at e3
  rw [List.getElem?_map] at h1
  cases en : ns[i]? with
  | none => rw [en] at h1; cases h1
  | some n =>
    rw [en] at e3 h1
    obtain rfl := Option.some.inj h1
    have e4 : Sum.inl n = k := Option.some.inj e3
    subst e4
    rw [a4P] at e2
    rcases a0D e2 with ⟨j, t, z1, z2⟩ | ⟨j, t, z1, z2⟩
    ·cases z1; exact ⟨t, z2⟩
    ·cases z1)
 refine wpAny_bind (wpAny_newList ?_)
 have hoL : (h'.push (seqObj "list" acc.toList.toArray 0)).get? h'.objs.size = some (seqObj "list" acc.toList.toArray 0) := Heap.get?_push_size _ rfl
 refine wpAny_bind (wpAny_holding (wpAny_call_entry slot_list_sort ⟨_, hoL, rfl⟩ entry_list_sort (list_sort_tree hoL hI (by rw [Array.length_toList, hsz, hl]; exact h64) fun out ns' a1 a2 a3 => ⟨_, rfl, ?_⟩) (args_list_sort _)))
 exact wpAny_pure ⟨_, rfl, h h' _ _ out ns' hkp (fun b u e => (sortedHeap_old (Nat.ne_of_lt (Heap.lt_size e)) (Nat.lt_of_lt_of_le (Heap.lt_size e) (by show h'.objs.size ≤ (h'.push (seqObj "list" acc.toList.toArray 0)).objs.size; rw [size_push']; exact Nat.le_succ _))).trans (Heap.get?_push_of_some _ e)) (sortedHeap_at hoL) a1 a2 a3⟩
end
section
variable {X : Cx}
theorem a8f (hc : X.calm = true) : a3k X (.builtin "sorted") a7t := by
 intro pins s σ H vs us Q2 I r h
 obtain ⟨xs, M, Q, rr, hh, q, en⟩ := h
 unfold a7t at q
 split at q
 ·obtain ⟨v, rfl, r1⟩ := a2r rr
  obtain rfl := a0o r1
  obtain ⟨u, rfl, rx⟩ := a3n r
  cases rx
  split at q
  ·rename_i kvs e0
   obtain ⟨ns, hk, h64, q⟩ := q
   obtain ⟨kv, g1, g2⟩ := hh _ _ e0
   obtain ⟨kz, lo, vs, r1, dd⟩ := (show a1P X.prog X.w H s.heap _ (.dK kv) from I.hok _ _ g1)
   obtain ⟨ep, da⟩ := dd.dictAt
   have e1 : vs.map (·.1) = ns.map Sum.inl := by
    rw [← r1.keys]
    exact (a3t g2).trans hk
   refine a9U (I.ok.hd hc) da lo e1 h64 fun h1 h' tk out ns' hkp hkp2 ⟨e, hg⟩ a1 a2 a3 => ?_
   have I1 : Inv X pins σ H { s with heap := h1, toks := s.toks } := I.kept hkp
   have hfr : H h1.objs.size = none := I1.hok.fresh (Nat.le_refl _)
   have hn : ns'.length ≤ sizeLine := by rw [a2.length_eq, sizeLine_eq]; lia
   exact ⟨.ref h1.objs.size, _, I1.laid (t' := tk) hkp2 (Nat.le_refl _) (show a1P X.prog X.w _ h' _ (.lst (ns'.map V.int)) from ⟨by rw [List.length_map]; exact hn, out.toList, e, a5C a1, by rw [Array.toArray_toList]; exact hg⟩), rfl, en _ _ _ _ (Kp.new hfr) (hh.newL hfr (a8Z ns')) a2y (q ns' a2 a3 _ (hh.free hfr))⟩
  ·exact q.elim
 ·exact q.elim
end
noncomputable abbrev Po := List (Int × Int)
noncomputable def co : Po → Int → Int
 | [], _ => 0
 | x :: r, k => (if x.1 = k then x.2 else 0) + co r k
noncomputable def CanP (p : Po) : Prop := p.Pairwise (fun a b => a.1 < b.1) ∧ ∀ x ∈ p, x.2 ≠ 0
theorem a1o (p q : Po) (k : Int) : co (p ++ q) k = co p k + co q k := by
 induction p with
 | nil => show co q k = 0 + co q k; lia
 | cons x r ih =>
   show (if x.1 = k then x.2 else 0) + co (r ++ q) k = ((if x.1 = k then x.2 else 0) + co r k) + co q k
   rw [ih]; lia
theorem a1m {p : Po} {k : Int} (h : ∀ x ∈ p, x.1 ≠ k) : co p k = 0 := by
 induction p with
 | nil => rfl
 | cons x r ih =>
   show (if x.1 = k then x.2 else 0) + co r k = 0
   rw [if_neg (h x (.head _)), ih fun y hy => h y (.tail _ hy)]; rfl
theorem a2z {p : Po} (h : p.Pairwise (fun a b => a.1 < b.1)) {x : Int × Int} (hx : x ∈ p) : co p x.1 = x.2 := by
 induction p with
 | nil => cases hx
 | cons y r ih =>
   obtain ⟨h1, h2⟩ := List.pairwise_cons.mp h
   show (if y.1 = x.1 then y.2 else 0) + co r x.1 = x.2
   rcases List.mem_cons.mp hx with e | e
   ·subst e
    rw [if_pos rfl, a1m fun z hz => Int.ne_of_gt (h1 z hz)]; lia
   ·rw [if_neg (Int.ne_of_lt (h1 x e)), ih h2 e]; lia
theorem a1x : ∀ {p q : Po}, CanP p → CanP q → (∀ k, co p k = co q k) → p = q
 | [], [], _, _, _ => rfl
 | [], y :: q, _, hq, h => by
   have e := a2z hq.1 (List.mem_cons_self (a := y) (l := q))
   rw [← h] at e
   exact absurd e.symm (hq.2 y (.head _))
 | x :: p, [], hp, _, h => by
   have e := a2z hp.1 (List.mem_cons_self (a := x) (l := p))
   rw [h] at e
   exact absurd e.symm (hp.2 x (.head _))
 | x :: p, y :: q, hp, hq, h => by
   obtain ⟨p1, p2⟩ := List.pairwise_cons.mp hp.1
   obtain ⟨q1, q2⟩ := List.pairwise_cons.mp hq.1
   have ex := a2z hp.1 (List.mem_cons_self (a := x) (l := p))
   have ey := a2z hq.1 (List.mem_cons_self (a := y) (l := q))
   have nx := hp.2 x (.head _)
   have ny := hq.2 y (.head _)
   have e1 : x.1 = y.1 := by
    rcases Int.lt_trichotomy x.1 y.1 with z | z | z
    ·rw [h, a1m] at ex
     ·exact absurd ex.symm nx
     ·intro w hw
      rcases List.mem_cons.mp hw with e | e
      ·rw [e]; exact Int.ne_of_gt z
      ·exact Int.ne_of_gt (Int.lt_trans z (q1 w e))
    ·exact z
    ·rw [← h, a1m] at ey
     ·exact absurd ey.symm ny
     ·intro w hw
      rcases List.mem_cons.mp hw with e | e
      ·rw [e]; exact Int.ne_of_gt z
      ·exact Int.ne_of_gt (Int.lt_trans z (p1 w e))
   have e2 : x.2 = y.2 := by rw [← ex, ← ey, e1, h]
   have exy : x = y := Prod.ext e1 e2
   subst exy
   refine congrArg (x :: ·) (a1x ⟨p2, fun z hz => hp.2 z (.tail _ hz)⟩ ⟨q2, fun z hz => hq.2 z (.tail _ hz)⟩ fun k => ?_)
   have := h k
   have t : (if x.1 = k then x.2 else 0) + co p k = (if x.1 = k then x.2 else 0) + co q k := this
   lia
noncomputable def putP (k c : Int) : Po → Po
 | [] => if c = 0 then [] else [(k, c)]
 | x :: r => if k < x.1 then (if c = 0 then x :: r else (k, c) :: x :: r) else if k = x.1 then (if x.2 + c = 0 then r else (k, x.2 + c) :: r) else x :: putP k c r
noncomputable def norm : Po → Po
 | [] => []
 | x :: r => putP x.1 x.2 (norm r)
noncomputable def N1 : Po → Nat
 | [] => 0
 | x :: r => x.2.natAbs + N1 r
theorem b4O (k c : Int) : ∀ (p : Po) (j : Int), co (putP k c p) j = (if k = j then c else 0) + co p j
 | [], j => by
   show co (if c = 0 then [] else [(k, c)]) j = (if k = j then c else 0) + 0
   by_cases h : c = 0
   ·rw [if_pos h, h]
    show 0 = (if k = j then 0 else 0) + 0
    split <;> rfl
   ·rw [if_neg h]; rfl
 | x :: r, j => by
   show co (if k < x.1 then (if c = 0 then x :: r else (k, c) :: x :: r) else if k = x.1 then (if x.2 + c = 0 then r else (k, x.2 + c) :: r) else x :: putP k c r) j = (if k = j then c else 0) + ((if x.1 = j then x.2 else 0) + co r j)
   by_cases h1 : k < x.1
   ·rw [if_pos h1]
    by_cases h : c = 0
    ·rw [if_pos h, h]
     show (if x.1 = j then x.2 else 0) + co r j = _
     split <;> split <;> lia
    ·rw [if_neg h]; rfl
   ·rw [if_neg h1]
    by_cases h2 : k = x.1
    ·rw [if_pos h2]
     by_cases h : x.2 + c = 0
     ·rw [if_pos h]
      split <;> split <;> lia
     ·rw [if_neg h]
      show (if k = j then x.2 + c else 0) + co r j = _
      split <;> split <;> lia
    ·rw [if_neg h2]
     show (if x.1 = j then x.2 else 0) + co (putP k c r) j = _
     rw [b4O k c r j]; lia
theorem b3t {k c m : Int} (hk : m < k) : ∀ {p : Po}, (∀ x ∈ p, m < x.1) → ∀ x ∈ putP k c p, m < x.1
 | [], _, x, hx => by
   have hx : x ∈ (if c = 0 then [] else [(k, c)]) := hx
   split at hx
   ·cases hx
   ·rw [List.mem_singleton.mp hx]; exact hk
 | y :: r, h, x, hx => by
   have hx : x ∈ (if k < y.1 then (if c = 0 then y :: r else (k, c) :: y :: r) else if k = y.1 then (if y.2 + c = 0 then r else (k, y.2 + c) :: r) else y :: putP k c r) := hx
   split at hx
   ·split at hx
    ·exact h x hx
    ·rcases List.mem_cons.mp hx with e | e
     ·rw [e]; exact hk
     ·exact h x e
   ·split at hx
    ·split at hx
     ·exact h x (.tail _ hx)
     ·rcases List.mem_cons.mp hx with e | e
      ·rw [e]; exact hk
      ·exact h x (.tail _ e)
    ·rcases List.mem_cons.mp hx with e | e
     ·rw [e]; exact h y (.head _)
     ·exact b3t hk (fun z hz => h z (.tail _ hz)) x e
theorem a9w (k c : Int) : ∀ {p : Po}, CanP p → CanP (putP k c p)
 | [], _ => by
   show CanP (if c = 0 then [] else [(k, c)])
   split
   ·exact ⟨.nil, fun _ h => absurd h List.not_mem_nil⟩
   ·rename_i h
    exact ⟨List.pairwise_singleton _ _, fun x hx => by rw [List.mem_singleton.mp hx]; exact h⟩
 | y :: r, h => by
   obtain ⟨h1, h2⟩ := List.pairwise_cons.mp h.1
   show CanP (if k < y.1 then (if c = 0 then y :: r else (k, c) :: y :: r) else if k = y.1 then (if y.2 + c = 0 then r else (k, y.2 + c) :: r) else y :: putP k c r)
   split
   ·rename_i a
    split
    ·exact h
    ·rename_i b
     refine ⟨List.pairwise_cons.mpr ⟨fun z hz => ?_, h.1⟩, fun z hz => ?_⟩
     ·rcases List.mem_cons.mp hz with e | e
      ·rw [e]; exact a
      ·exact Int.lt_trans a (h1 z e)
     ·rcases List.mem_cons.mp hz with e | e
      ·rw [e]; exact b
      ·exact h.2 z e
   ·split
    ·rename_i a b
     split
     ·exact ⟨h2, fun z hz => h.2 z (.tail _ hz)⟩
     ·rename_i d
      refine ⟨List.pairwise_cons.mpr ⟨fun z hz => by rw [b]; exact h1 z hz, h2⟩, fun z hz => ?_⟩
      rcases List.mem_cons.mp hz with e | e
      ·rw [e]; exact d
      ·exact h.2 z (.tail _ e)
    ·rename_i a b
     have ih := a9w k c (p := r) ⟨h2, fun z hz => h.2 z (.tail _ hz)⟩
     refine ⟨List.pairwise_cons.mpr ⟨fun z hz => b3t (by lia) h1 z hz, ih.1⟩, fun z hz => ?_⟩
     rcases List.mem_cons.mp hz with e | e
     ·rw [e]; exact h.2 y (.head _)
     ·exact ih.2 z e
theorem b5h (k c : Int) : ∀ p : Po, N1 (putP k c p) ≤ c.natAbs + N1 p
 | [] => by
   show N1 (if c = 0 then [] else [(k, c)]) ≤ c.natAbs + 0
   split
   ·exact Nat.zero_le _
   ·exact Nat.le_refl _
 | x :: r => by
   have ih := b5h k c r
   show N1 (if k < x.1 then (if c = 0 then x :: r else (k, c) :: x :: r) else if k = x.1 then (if x.2 + c = 0 then r else (k, x.2 + c) :: r) else x :: putP k c r) ≤ c.natAbs + (x.2.natAbs + N1 r)
   split
   ·split
    ·show x.2.natAbs + N1 r ≤ _; lia
    ·exact Nat.le_refl _
   ·split
    ·split
     ·lia
     ·show (x.2 + c).natAbs + N1 r ≤ _; lia
    ·show x.2.natAbs + N1 (putP k c r) ≤ _; lia
theorem a0F : ∀ (p : Po) (k : Int), co (norm p) k = co p k
 | [], _ => rfl
 | x :: r, k => by
   show co (putP x.1 x.2 (norm r)) k = (if x.1 = k then x.2 else 0) + co r k
   rw [b4O, a0F r]
theorem a0z : ∀ p : Po, CanP (norm p)
 | [] => ⟨.nil, fun _ h => absurd h List.not_mem_nil⟩
 | x :: r => a9w x.1 x.2 (a0z r)
theorem b0L : ∀ p : Po, N1 (norm p) ≤ N1 p
 | [] => Nat.le_refl _
 | x :: r => Nat.le_trans (b5h x.1 x.2 (norm r)) (Nat.add_le_add_left (b0L r) _)
theorem a9J (p q : Po) : N1 (p ++ q) = N1 p + N1 q := by
 induction p with
 | nil => show N1 q = 0 + N1 q; lia
 | cons x r ih => show x.2.natAbs + N1 (r ++ q) = x.2.natAbs + N1 r + N1 q; lia
theorem b1b {k c : Int} : ∀ {p : Po}, ∀ x ∈ putP k c p, x.1 = k ∨ ∃ y ∈ p, y.1 = x.1
 | [], x, hx => by
   have hx : x ∈ (if c = 0 then [] else [(k, c)]) := hx
   split at hx
   ·cases hx
   ·rw [List.mem_singleton.mp hx]; exact .inl rfl
 | y :: r, x, hx => by
   have hx : x ∈ (if k < y.1 then (if c = 0 then y :: r else (k, c) :: y :: r) else if k = y.1 then (if y.2 + c = 0 then r else (k, y.2 + c) :: r) else y :: putP k c r) := hx
   split at hx
   ·split at hx
    ·exact .inr ⟨x, hx, rfl⟩
    ·rcases List.mem_cons.mp hx with e | e
     ·rw [e]; exact .inl rfl
     ·exact .inr ⟨x, e, rfl⟩
   ·split at hx
    ·split at hx
     ·exact .inr ⟨x, .tail _ hx, rfl⟩
     ·rcases List.mem_cons.mp hx with e | e
      ·rw [e]; exact .inl rfl
      ·exact .inr ⟨x, .tail _ e, rfl⟩
    ·rcases List.mem_cons.mp hx with e | e
     ·rw [e]; exact .inr ⟨y, .head _, rfl⟩
     ·rcases b1b x e with z | ⟨z, hz, ez⟩
      ·exact .inl z
      ·exact .inr ⟨z, .tail _ hz, ez⟩
theorem a7F : ∀ {p : Po}, ∀ x ∈ norm p, ∃ y ∈ p, y.1 = x.1
 | [], x, hx => by cases hx
 | y :: r, x, hx => by
   rcases b1b (k := y.1) (c := y.2) (p := norm r) x hx with z | ⟨z, hz, ez⟩
   ·exact ⟨y, .head _, z.symm⟩
   ·obtain ⟨u, hu, eu⟩ := a7F z hz
    exact ⟨u, .tail _ hu, eu.trans ez⟩
noncomputable def addP (p q : Po) : Po := norm (p ++ q)
noncomputable def rawM (p q : Po) : Po := p.flatMap fun a => q.map fun b => (a.1 + b.1, a.2 * b.2)
noncomputable def a0K (p q : Po) : Po := norm (rawM p q)
theorem b9m (p q : Po) : N1 (addP p q) ≤ N1 p + N1 q := Nat.le_trans (b0L _) (Nat.le_of_eq (a9J p q))
theorem b7i (a : Int × Int) : ∀ q : Po, N1 (q.map fun b => (a.1 + b.1, a.2 * b.2)) = a.2.natAbs * N1 q
 | [] => rfl
 | b :: q => by
   show (a.2 * b.2).natAbs + N1 (q.map fun b => (a.1 + b.1, a.2 * b.2)) = a.2.natAbs * (b.2.natAbs + N1 q)
   rw [b7i a q, Int.natAbs_mul, Nat.mul_add]
theorem b7j (q : Po) : ∀ p : Po, N1 (rawM p q) = N1 p * N1 q
 | [] => (Nat.zero_mul _).symm
 | a :: p => by
   show N1 ((q.map fun b => (a.1 + b.1, a.2 * b.2)) ++ rawM p q) = (a.2.natAbs + N1 p) * N1 q
   rw [a9J, b7i, b7j q p, Nat.add_mul]
theorem b9l (p q : Po) : N1 (a0K p q) ≤ N1 p * N1 q := Nat.le_trans (b0L _) (Nat.le_of_eq (b7j q p))
theorem c1l {p : Po} {x : Int × Int} (h : x ∈ p) : x.2.natAbs ≤ N1 p := by
 induction p with
 | nil => cases h
 | cons y r ih =>
   show _ ≤ y.2.natAbs + N1 r
   rcases List.mem_cons.mp h with e | e
   ·rw [e]; lia
   ·have := ih e; lia
noncomputable def PwB (b : Nat) (p : Po) : Prop := ∀ x ∈ p, x.1.natAbs ≤ b
theorem b9k {b : Nat} {p q : Po} (hp : PwB b p) (hq : PwB b q) : PwB b (addP p q) := fun x hx => by
 obtain ⟨y, hy, e⟩ := a7F x hx
 rw [← e]
 rcases List.mem_append.mp hy with z | z
 ·exact hp y z
 ·exact hq y z
theorem b9j {a b : Nat} {p q : Po} (hp : PwB a p) (hq : PwB b q) : PwB (a + b) (a0K p q) := fun x hx => by
 obtain ⟨y, hy, e⟩ := a7F x hx
 rw [← e]
 obtain ⟨u, hu, hy⟩ := List.mem_flatMap.mp hy
 obtain ⟨v, hv, rfl⟩ := List.mem_map.mp hy
 have h1 := hp u hu
 have h2 := hq v hv
 show (u.1 + v.1).natAbs ≤ a + b
 lia
theorem PwB.mono {a b : Nat} {p : Po} (h : PwB a p) (hab : a ≤ b) : PwB b p := fun x hx => Nat.le_trans (h x hx) hab
noncomputable def near (b : Nat) : List Int := (List.range (2 * b + 1)).map fun (i : Nat) => ((i : Int) - (b : Int))
theorem a7G (b : Nat) : (near b).length = 2 * b + 1 := by unfold near; rw [List.length_map, List.length_range]
theorem a7H {b : Nat} {x : Int} (h : x.natAbs ≤ b) : x ∈ near b := List.mem_map.mpr ⟨(x + (b : Int)).toNat, List.mem_range.mpr (by lia), by show (((x + (b : Int)).toNat : Nat) : Int) - (b : Int) = x; lia⟩
noncomputable def prT (x : Int × Int) : T := .tup [.int x.1, .int x.2]
noncomputable def poT (p : Po) : T := .tup (p.map prT)
noncomputable def dkI (m : Po) : List (Key × T) := m.map fun x => (.inl x.1, .int x.2)
theorem b1D (m : Po) : (dkI m).map b8o = m.map prT := by unfold dkI; rw [List.map_map]; rfl
theorem a4s (m : Po) : (dkI m).map Prod.fst = (m.map Prod.fst).map Sum.inl := by unfold dkI; rw [List.map_map, List.map_map]; rfl
theorem b4E (m : Po) : (dkI m).length = m.length := by unfold dkI; rw [List.length_map]
noncomputable def setP (k v : Int) : Po → Po
 | [] => [(k, v)]
 | x :: r => if x.1 = k then (k, v) :: r else x :: setP k v r
theorem a5F (k v : Int) : ∀ m : Po, (setP k v m).map Prod.fst = if k ∈ m.map Prod.fst then m.map Prod.fst else m.map Prod.fst ++ [k]
 | [] => rfl
 | x :: r => by
   show ((if x.1 = k then (k, v) :: r else x :: setP k v r).map Prod.fst) = _
   by_cases h : x.1 = k
   ·rw [if_pos h, if_pos (by rw [List.map_cons, h]; exact .head _), List.map_cons, List.map_cons, h]
   ·rw [if_neg h, List.map_cons, a5F k v r, List.map_cons]
    by_cases g : k ∈ r.map Prod.fst
    ·rw [if_pos g, if_pos (.tail _ g)]
    ·rw [if_neg g, if_neg (fun z => (List.mem_cons.mp z).elim (fun e => h e.symm) g)]; rfl
theorem a6M {k v : Int} {m : Po} (h : (m.map Prod.fst).Nodup) : ((setP k v m).map Prod.fst).Nodup := by
 rw [a5F]
 split
 ·exact h
 ·rename_i g
  rw [List.nodup_append]
  exact ⟨h, List.pairwise_singleton _ _, fun a ha b hb => by rw [List.mem_singleton.mp hb]; exact fun z => g (z ▸ ha)⟩
theorem a7v {k v : Int} : ∀ {m : Po}, (m.map Prod.fst).Nodup → putT (dkI m) (.inl k) (.int v) = dkI (setP k v m)
 | [], _ => rfl
 | x :: r, h => by
   rw [List.map_cons, List.nodup_cons] at h
   have ih := a7v (k := k) (v := v) h.2
   show putT ((.inl x.1, .int x.2) :: dkI r) (.inl k) (.int v) = dkI (if x.1 = k then (k, v) :: r else x :: setP k v r)
   by_cases e : x.1 = k
   ·rw [if_pos e]
    unfold putT
    rw [if_pos (by rw [List.any_cons, decide_eq_true (show (Sum.inl x.1 : Key) = .inl k by rw [e])]; rfl)]
    rw [List.map_cons, if_pos (show (Sum.inl x.1 : Key) = .inl k by rw [e])]
    show _ = (Sum.inl k, T.int v) :: dkI r
    rw [e]
    congr 1
    unfold dkI
    rw [List.map_map]
    refine List.map_congr_left fun y hy => ?_
    show (if (Sum.inl y.1 : Key) = .inl k then ((Sum.inl y.1 : Key), T.int v) else (Sum.inl y.1, T.int y.2)) = _
    rw [if_neg (fun z => h.1 (by rw [e, ← Sum.inl.inj z]; exact List.mem_map.mpr ⟨y, hy, rfl⟩))]
   ·have ne : ¬ (Sum.inl x.1 : Key) = .inl k := fun z => e (Sum.inl.inj z)
    rw [if_neg e]
    show _ = (Sum.inl x.1, T.int x.2) :: dkI (setP k v r)
    rw [← ih]
    unfold putT
    rw [List.any_cons, decide_eq_false ne, Bool.false_or]
    split
    ·rw [List.map_cons, if_neg ne]
    ·rfl
theorem a5o (k : Int) : ∀ {m : Po}, (m.map Prod.fst).Nodup → (valT (dkI m) (.inl k)).getD (.int 0) = .int (co m k)
 | [], _ => rfl
 | x :: r, h => by
   rw [List.map_cons, List.nodup_cons] at h
   show (valT ((.inl x.1, .int x.2) :: dkI r) (.inl k)).getD (.int 0) = .int ((if x.1 = k then x.2 else 0) + co r k)
   rw [a8n]
   by_cases e : x.1 = k
   ·rw [if_pos (show (Sum.inl x.1 : Key) = .inl k by rw [e]), if_pos e, a1m (fun y hy z => h.1 (by rw [e, ← z]; exact List.mem_map.mpr ⟨y, hy, rfl⟩)), Int.add_zero]; rfl
   ·rw [if_neg (fun z => e (Sum.inl.inj z)), if_neg e, Int.zero_add]
    exact a5o k h.2
theorem a2C {k : Int} : ∀ {m : Po}, (m.map Prod.fst).Nodup → k ∈ m.map Prod.fst → valT (dkI m) (.inl k) = some (.int (co m k))
 | [], _, z => by cases z
 | x :: r, h, z => by
   rw [List.map_cons, List.nodup_cons] at h
   show valT ((.inl x.1, .int x.2) :: dkI r) (.inl k) = some (.int ((if x.1 = k then x.2 else 0) + co r k))
   rw [a8n]
   by_cases e : x.1 = k
   ·rw [if_pos (show (Sum.inl x.1 : Key) = .inl k by rw [e]), if_pos e, a1m (fun y hy z => h.1 (by rw [e, ← z]; exact List.mem_map.mpr ⟨y, hy, rfl⟩)), Int.add_zero]
   ·rw [if_neg (fun z => e (Sum.inl.inj z)), if_neg e, Int.zero_add]
    rw [List.map_cons] at z
    exact a2C h.2 ((List.mem_cons.mp z).resolve_left fun y => e y.symm)
theorem b0B (k v : Int) : ∀ {m : Po}, (m.map Prod.fst).Nodup → ∀ j, co (setP k v m) j = if j = k then v else co m j
 | [], _, j => by
   show (if k = j then v else 0) + 0 = if j = k then v else 0
   by_cases e : j = k
   ·rw [if_pos e, if_pos e.symm]; lia
   ·rw [if_neg e, if_neg (fun z => e z.symm)]; rfl
 | x :: r, h, j => by
   rw [List.map_cons, List.nodup_cons] at h
   show co (if x.1 = k then (k, v) :: r else x :: setP k v r) j = if j = k then v else (if x.1 = j then x.2 else 0) + co r j
   by_cases e : x.1 = k
   ·rw [if_pos e]
    show (if k = j then v else 0) + co r j = _
    by_cases f : j = k
    ·rw [if_pos f, if_pos f.symm, a1m (fun y hy z => h.1 (by rw [e, ← f, ← z]; exact List.mem_map.mpr ⟨y, hy, rfl⟩))]; lia
    ·rw [if_neg f, if_neg (fun z => f z.symm), if_neg (fun z => f (z.symm.trans e))]
   ·rw [if_neg e]
    show (if x.1 = j then x.2 else 0) + co (setP k v r) j = _
    rw [b0B k v h.2 j]
    by_cases f : j = k
    ·rw [if_pos f, if_pos f, if_neg (fun z => e (z.trans f))]; lia
    ·rw [if_neg f, if_neg f]
theorem b0k {m : Po} {ms : List Int} (hm : (m.map Prod.fst).Nodup) (hp : ms.Perm (m.map Prod.fst)) (hs : ms.Pairwise (· ≤ ·)) : ((ms.filter fun k => decide (co m k ≠ 0)).map fun k => (k, co m k)) = norm m := by
 have hnd : ms.Nodup := hp.nodup_iff.mpr hm
 have hst : ms.Pairwise (· < ·) := hs.imp₂ (fun a b h1 h2 => Int.lt_iff_le_and_ne.mpr ⟨h1, h2⟩) hnd
 have hc : CanP ((ms.filter fun k => decide (co m k ≠ 0)).map fun k => (k, co m k)) := by
  refine ⟨List.pairwise_map.mpr (hst.filter _), fun x hx => ?_⟩
  obtain ⟨k, hk, rfl⟩ := List.mem_map.mp hx
  exact of_decide_eq_true (List.mem_filter.mp hk).2
 refine a1x hc (a0z m) fun k => ?_
 rw [a0F]
 by_cases h : k ∈ ms ∧ co m k ≠ 0
 ·exact a2z hc.1 (x := (k, co m k)) (List.mem_map.mpr ⟨k, List.mem_filter.mpr ⟨h.1, decide_eq_true h.2⟩, rfl⟩)
 ·rw [a1m]
  ·by_cases g : k ∈ ms
   ·exact (Classical.not_not.mp fun z => h ⟨g, z⟩).symm
   ·exact (a1m fun x hx z => g (hp.mem_iff.mpr (List.mem_map.mpr ⟨x, hx, z⟩))).symm
  ·intro x hx z
   obtain ⟨j, hj, rfl⟩ := List.mem_map.mp hx
   obtain rfl : j = k := z
   exact h ⟨(List.mem_filter.mp hj).1, of_decide_eq_true (List.mem_filter.mp hj).2⟩
theorem a0M {K : PySem.W.Frag} {H : Hp} : Reps K H [] [] := by unfold Reps; rfl
theorem a0h {K : PySem.W.Frag} {H : Hp} {v : V} {t : T} {vs : List V} {ts : List T} (a : Rep K H v t) (b : Reps K H vs ts) : Reps K H (v :: vs) (t :: ts) := by unfold Reps; exact ⟨v, vs, rfl, a, b⟩
theorem a0N {K : PySem.W.Frag} {H : Hp} {u : Addr} {xs : List V} {its : Array Value} {n : Nat} {sl : Array (Option Value)} {ts : List T} (l : K.lookup u = some ⟨.type "tuple", none, .seq its n, sl⟩) (hz : its.size ≤ 1000) (v : Vals xs its.toList) (r : Reps K H xs ts) : Rep K H (.ref u) (.tup ts) :=
 a1U (.inr ⟨_, its, n, l, rfl, rfl, rfl, by rw [sizeLine_eq]; lia, v⟩) r
section
variable {X : Cx}
theorem a2o {x : Str} {a : Addr} {t : T} {pos : Pos} (c : X.mg x = some (.ref a) ∧ ∀ H, Rep X.K H (.ref a) t) (hg : Gl X x := by rfl) (hd : (x == ("__debug__" : Str)) = false := by decide) : HE X (.Name x pos) (tK t) := fun ρ M Q q => (b3C (v := .ref a) hg c.1 rfl hd).imp fun σ H Q2 ⟨hr, hh, en⟩ => en t _ M H Kp.refl hh (c.2 H) q
theorem b4b {st : List Stmt} : HSs X st (fun _ _ _ => False) := fun D ρ M h => h.elim
end
section
variable {X : Cx} {a b e : Expr} {pos : Pos}
noncomputable def b6K (t : TA3) : TE3 := fun ρ M Q => t ρ M fun xs M1 => match xs with
 | [.int i, .int j] => (-(2 ^ 62) ≤ i ∧ i < 2 ^ 62 ∧ -(2 ^ 62) ≤ j ∧ j < 2 ^ 62 ∧ j - i < 2 ^ 24) ∧ ∀ p, M1 p = none → Q (.adr p) (updM M1 p (.lst (a0w i (j - i).toNat)))
 | _ => False
theorem a9b {t : TA3} {p p' pos' : Pos} (hm : X.mg "list" = none) (hm' : X.mg "range" = none) (ha : HA X [a, b] t) (hc : X.calm = true := by rfl) (hg : Gl X "list" := by rfl) (hg' : Gl X "range" := by rfl) (hs : starEach [a, b] X.env = [(false, eval a X.env), (false, eval b X.env)] := by rfl) (hs2 : starEach [b] X.env = [(false, eval b X.env)] := by rfl)
  (he : starEach [.Call (.Name "range" p') [a, b] [] pos'] X.env = (false, eval (.Call (.Name "range" p') [a, b] [] pos') X.env) :: starEach [] X.env := by rfl) :
  HE X (.Call (.Name "list" p) [.Call (.Name "range" p') [a, b] [] pos'] [] pos) (b6K t) := by
 intro ρ M Q h pins s σ H Q2 I bb
 obtain ⟨hr, hh, en⟩ := bb
 refine wpAny_Call_Name_kw (a3j I hg hm boot_list ?_ (by decide) (by decide))
 refine PyProof.Rows.callWith_type1 ?_ he rfl
 rw [he]
 refine Calls.spliced_cons ?_
 refine Call_ (a3j I hg' hm' boot_range (PyProof.Rows.callWith_type1 (thn (ha ρ M _ h pos' pins s σ H (fun vs H1 => ∃ i j M1, vs = [V.int i, V.int j] ∧ HR X.K H1 M1 ∧ Kp X.K H H1 ∧ (-(2 ^ 62) ≤ i ∧ i < 2 ^ 62 ∧ -(2 ^ 62) ≤ j ∧ j < 2 ^ 62 ∧ j - i < 2 ^ 24) ∧ ∀ p, M1 p = none → Q (.adr p) (updM M1 p (.lst (a0w i (j - i).toNat)))) I
  ⟨hr, hh, fun ts vs M1 H1 k1 h1 r1 q1 => by
   dsimp only at q1
   split at q1
   ·rename_i i j
    obtain ⟨v, w', rfl, rv, rw'⟩ := b7L r1
    obtain rfl := a0n rv
    obtain rfl := a0n rw'
    exact ⟨i, j, M1, rfl, h1, k1, q1.1, q1.2⟩
   ·exact q1.elim⟩) fun us s1 ⟨vs, H1, I1, rv, i, j, M1, e1, h1, k1, hj, q1⟩ => ?_) (by rw [hs, hs2]) (by rw [hs2]; rfl)))
 subst e1
 obtain ⟨u, u2, rfl, ⟨t0, rfl⟩, t', rfl⟩ := rv.two
 refine call_range_2 (Calls.spliced_nil ?_)
 have I2 : Inv X pins σ H1 { s1 with heap := s1.heap.push { cls := .type "range", data := .fields #[.int i t0, .int j t', .int 1 s1.toks] }, toks := s1.toks + 1 } := I1.kept fun b o e => Heap.get?_push_of_some _ e
 have hn : Builtin.Range.rangeSize i j 1 = (((j - i).toNat : Nat) : Int) := by rw [rangeSize_one]; split <;> lia
 refine call_list_range (I1.ok.hd hc) (IsRange.new ..) (small_one (by lia) (by lia) (by lia) (by lia)) hn (by lia) fun h' tk acc' c' kp e ito => ?_
 have hz : (j - i).toNat ≤ sizeLine := by rw [sizeLine_eq]; lia
 have vr : Vals (a1b i (j - i).toNat) acc'.toList := by
  refine a2W (by unfold a1b; simp [ito.1]) fun k x ex => ?_
  have hi : k < (j - i).toNat := by have := (List.getElem?_eq_some_iff.mp ex).1; simpa [a1b] using this
  have hi' : k < acc'.size := by rw [ito.1]; exact hi
  have ea : acc'[k]? = some acc'[k] := Array.getElem?_eq_getElem hi'
  obtain ⟨tt, et⟩ := ito.2 k _ ea
  refine ⟨acc'[k], by rw [Array.getElem?_toList]; exact ea, ?_⟩
  unfold a1b at ex
  rw [List.getElem?_map, List.getElem?_range hi] at ex
  have := Option.some.inj ex
  subst this
  exact ⟨tt, by rw [et, Int.mul_one]⟩
 have I3 := I2.laid (a := { s1 with heap := s1.heap.push { cls := .type "range", data := .fields #[.int i t0, .int j t', .int 1 s1.toks] }, toks := s1.toks + 1 }.heap.objs.size) (o := .lst (a1b i (j - i).toNat)) (t' := tk) kp (Nat.le_refl _)
  (show a1P X.prog X.w _ h' _ (.lst (a1b i (j - i).toNat)) from ⟨by unfold a1b; simpa using hz, acc'.toList, c', vr, by simpa using e⟩)
 have hf := I2.hok.fresh (Nat.le_refl _)
 exact ⟨.ref _, _, I3, rfl, en _ _ _ _ (k1.trans (Kp.new hf)) (h1.newL hf (a3S i (j - i).toNat)) a2y (q1 _ (h1.free hf))⟩
end
section
variable {X : Cx} {Ha : Hp} {e : Expr} {te : TE3} {pos : Pos}
end
noncomputable def Wk (M1 M2 : MH) : Prop := ∀ K H, HR K H M1 → HR K H M2
noncomputable def tWk (t : TE3) : TE3 := fun ρ M Q => t ρ M fun x M1 => ∃ M2, Wk M1 M2 ∧ Q x M2
theorem c1t {M : MH} {p : Addr} {kvs : List (Key × T)} (h : M p = some (.dk kvs)) : Wk M (updM M p (.fk kvs)) := fun K H hh a o e => by
 by_cases c : a = p
 ·subst c
  rw [a0c] at e; cases e
  obtain ⟨xs, g1, g2⟩ := hh _ _ h
  exact ⟨xs, .inl g1, g2⟩
 ·rw [a1F c] at e
  exact hh a o e
section
variable {X : Cx}
theorem h_wk {e : Expr} {t : TE3} (h : HE X e t) : HE X e (tWk t) := fun ρ M Q q => (h ρ M _ q).imp fun σ H Q2 ⟨hr, hh, en⟩ => ⟨hr, hh, fun x v M1 H1 k1 h1 r1 ⟨M2, w, q1⟩ => en x v M2 H1 k1 (w _ _ h1) r1 q1⟩
noncomputable def tDGF (td tk : TE3) : TE3 := fun ρ M Q => td ρ M fun x M1 => tk ρ M1 fun k M2 => match x with
 | .adr p => (match M2 p with
   | some (.fk kvs) => ∃ kk t, k = keyT kk ∧ valT kvs kk = some t ∧ Q t M2
   | _ => False)
 | _ => False
theorem c0U {o i : Expr} {td tk : TE3} {pos : Pos} (hu : X.A.units + 64 < cLine) (ho : HE X o td) (hi : HE X i tk) (hs : NoSl i := by intro _ _; rfl) : HE X (.Subscript o i pos) (tDGF td tk) := fun ρ M Q h =>
 (b3D (by lia) (ho.d (ρ := ρ)) (hi.d (ρ := ρ)) hs).imp fun σ H Q2 ⟨hr, hh, en⟩ => ⟨M, _, h, hr, hh, fun x v M1 H1 k1 h1 r1 q1 => ⟨M1, _, q1, hr.kp k1, h1, fun y v2 M2 H2 k2 h2 r2 q2 => by
  cases x with
  | adr p =>
    cases r1
    dsimp only at q2
    split at q2
    ·rename_i kvs e
     obtain ⟨kk, t, rfl, ev, q2⟩ := q2
     obtain rfl := a4L r2
     obtain ⟨xs, g1, g2⟩ := h2 _ _ e
     have hv := g2.val kk
     rw [ev] at hv
     obtain ⟨u, e1, e2⟩ := hv
     exact ⟨_, u, rfl, .inl ⟨xs, kk, g1, rfl, e1.symm⟩, en _ _ M2 H2 (k1.trans k2) h2 e2 q2⟩
    ·exact q2.elim
  | _ => exact q2.elim⟩⟩
theorem b0x {pins : List (Addr × Obj)} {σ : St} {H : Hp} {s : Shared} (I : Inv X pins σ H s) {p : Addr} {xs : List (Key × V)} (h : Rd H p (.dK xs)) : xs.length ≤ sizeLine ∧ (p == sysModules) = false ∧ ∃ vs, KV xs vs ∧ s.heap.DictOf (a0m X.prog X.w) p vs := by
 rcases h with h | ⟨o, h⟩
 ·exact (show a1P X.prog X.w H s.heap p (.dK xs) from I.hok p _ h)
 ·exact (show s.heap.get? p = some o ∧ a1P X.prog X.w H s.heap p (.dK xs) from I.hok p _ h).2
end
noncomputable def ItkK (d : Addr) (o : Obj) : It :=
 ⟨fun i H => ∃ kvs kv, H d = some (.frz o (.dK kvs)) ∧ kvs[i]? = some kv, fun i H x H' => H' = H ∧ ∀ kvs kv, H d = some (.frz o (.dK kvs)) → kvs[i]? = some kv → x = kV kv.1, fun i H => ∃ kvs, H d = some (.frz o (.dK kvs)) ∧ kvs.length ≤ i⟩
theorem b5W {k : Key} {key : Value} (h : a6s k key = true) : RelV (kV k) key := by
 rcases a0D h with ⟨i, t, rfl, rfl⟩ | ⟨x, t, rfl, rfl⟩
 ·exact ⟨t, rfl⟩
 ·exact ⟨t, rfl⟩
theorem a3u {P : Program} {w : World} {H : Hp} {h : Heap} {d : Addr} {o : Obj} {kvs : List (Key × V)} (ok : HOk P w H h) (e : H d = some (.frz o (.dK kvs))) :
  h.get? d = some o ∧ o.ExactDict ∧ ∃ es ep, o.data = .dict es ep ∧ es.size = kvs.length ∧ ∀ (i : Nat) kv, kvs[i]? = some kv → ∃ en, es[i]? = some en ∧ RelV (kV kv.1) en.key := by
 obtain ⟨g, z, y, vs, r, o', es, ep, h1, h2, h3, h4, h5, h6⟩ := (show h.get? d = some o ∧ a1P P w H h d (.dK kvs) from ok d _ e)
 rw [g] at h1
 obtain rfl := Option.some.inj h1
 have hl : es.size = kvs.length := by rw [← Array.length_toList, h5.length, r.length]
 refine ⟨g, h2, es, ep, h3, hl, fun i kv hi => ?_⟩
 have hlt : i < es.size := by rw [hl]; exact (List.getElem?_eq_some_iff.mp hi).1
 obtain ⟨⟨k, x⟩, e1, e2, e3⟩ := a8G r hi
 have hk := (h5.get? (e := es[i]) (by rw [Array.getElem?_toList, Array.getElem?_eq_getElem hlt]) e1).1
 refine ⟨es[i], Array.getElem?_eq_getElem hlt, ?_⟩
 rw [a4P] at hk
 rw [e2]
 exact b5W hk
theorem b2d {P : Program} {w : World} {K : PySem.W.Frag} {tg : Expr} (d : Addr) (o : Obj) (it : Addr) : Turn P w K tg (ItkK d o) [it] it (fun i h => ∃ es ep, o.data = .dict es ep ∧ h.IsKeyIter it d i es.size ep) where
 mem := by simp
 obj := fun i h st b hb => by
  have e : b = it := by simpa using hb
  subst e
  obtain ⟨_, _, _, o', e, c, d⟩ := st
  exact ⟨o', e, fun v z => by rw [d] at z; cases z⟩
 keep := fun i h h' st k => let ⟨es, ep, a, st⟩ := st; ⟨es, ep, a, st.at fun o e => k it (by simp) o e⟩
 item := by
  intro X hP hw hK hc i pins s σ H E I hf st hg
  subst hP hw hK
  obtain ⟨kvs, kv, hq, hx⟩ := hg
  obtain ⟨es, ep, hdat, st⟩ := st
  obtain ⟨g, _, es', ep', hdat', hsz, hat⟩ := a3u I.hok hq
  rw [hdat] at hdat'
  obtain ⟨rfl, rfl⟩ : es = es' ∧ ep = ep' := by injection hdat' with a b; exact ⟨a, b⟩
  obtain ⟨en, h1, h2⟩ := hat i kv hx
  obtain ⟨f0, f1, f2, f3, f4, f5⟩ := hf it (by simp)
  refine b0q st g hdat h1 fun h' st' sb => ?_
  have I1 : Inv X pins σ H { s with heap := h' } := I.turned (t' := s.toks) (fun b o hb e => (sb.2 b hb).trans e) f0 f1 f3 f4 f5
  obtain ⟨oi, e, c, dd⟩ := id st'
  refine ⟨en.key, rfl, b6l (s := { s with heap := h' }) e c dd (by decide) ⟨kV kv.1, H, I1, h2, ⟨rfl, fun kvs2 kv2 q2 x2 => ?_⟩, ⟨es, ep, hdat, st'⟩, fun b hb => (hf b hb).1⟩⟩
  rw [hq] at q2
  cases q2
  rw [hx] at x2
  cases x2
  rfl
 done := by
  intro X hP hw hK hc i pins s σ H E I hf st hg
  subst hP hw hK
  obtain ⟨kvs, hq, hx⟩ := hg
  obtain ⟨es, ep, hdat, st⟩ := st
  obtain ⟨g, _, es', ep', hdat', hsz, hat⟩ := a3u I.hok hq
  rw [hdat] at hdat'
  obtain ⟨rfl, rfl⟩ : es = es' ∧ ep = ep' := by injection hdat' with a b; exact ⟨a, b⟩
  obtain ⟨f0, f1, f2, f3, f4, f5⟩ := hf it (by simp)
  exact b0p (I.ok.hd hc) st g hdat (Array.getElem?_eq_none (by lia)) fun h' eb => ⟨rfl, I.turned (t' := s.toks) (fun b o hb e => eb b o hb e) f0 f1 f3 f4 f5⟩
 self := fun _ _ _ _ _ st h => let ⟨_, _, _, st⟩ := st; wpAny_pyIter_keyiter st h
noncomputable def a7L (kvs : List (Key × T)) : List T := kvs.map fun kv => keyT kv.1
theorem a8V (kvs : List (Key × T)) : (a7L kvs).length = kvs.length := List.length_map ..
theorem b5v {K : PySem.W.Frag} {H : Hp} (k : Key) : Rep K H (kV k) (keyT k) := by
 cases k with
 | inl i => exact a0i
 | inr x => exact a7q
theorem b2C {K : PySem.W.Frag} {H : Hp} {d : Addr} {o : Obj} {xs : List (Key × V)} {kvs : List (Key × T)} (g : H d = some (.frz o (.dK xs))) (r : KRep K H xs kvs) : ItOk K H (ItkK d o) ⟨a7L kvs, fun _ => True⟩ := by
 refine ⟨fun H' M' k hh _ => ⟨xs, k.frz _ _ _ g, ?_⟩, fun i x H' M' e k hh _ => ?_⟩
 ·show xs.length ≤ (a7L kvs).length
  rw [a8V, r.length]; exact Nat.le_refl _
 ·unfold a7L at e
  rw [List.getElem?_map] at e
  obtain ⟨kv, e1, rfl⟩ := Option.map_eq_some_iff.mp e
  obtain ⟨xv, e2, e3⟩ := b3S r e1
  refine ⟨⟨xs, xv, k.frz _ _ _ g, e2⟩, fun v H'' y => ?_⟩
  obtain ⟨rfl, y⟩ := y
  have := y xs xv (k.frz _ _ _ g) e2
  rw [e3] at this
  subst this
  exact ⟨Kp.refl, hh, b5v kv.1⟩
noncomputable def c0P (tl : TE3) : TI3 := fun ρ M R => tl ρ M fun x M1 => match x with
 | .adr p => (match M1 p with | some (.fk kvs) => R ⟨a7L kvs, fun _ => True⟩ M1 | _ => False)
 | _ => False
section
variable {X : Cx}
theorem b8H {tg l : Expr} {tl : TE3} (hl : HE X l tl) : HI X tg l (c0P tl) := by
 intro ρ M R h pins s σ H R2 I b
 obtain ⟨hr, hh, en⟩ := b
 refine thn (hl ρ M _ h pins s σ H (fun v H1 => ∃ t M1, Kp X.K H H1 ∧ HR X.K H1 M1 ∧ Rep X.K H1 v t ∧ (match t with
  | .adr p => (match M1 p with | some (.fk kvs) => R ⟨a7L kvs, fun _ => True⟩ M1 | _ => False)
  | _ => False)) I ⟨hr, hh, fun t v M1 H1 k1 h1 r1 q1 => ⟨t, M1, k1, h1, r1, q1⟩⟩) fun v s1 ⟨x, H1, I1, rv, t, M1, k1, h1, r1, q1⟩ => ?_
 split at q1
 ·rename_i a
  obtain rfl := a0o r1
  cases rv
  split at q1
  ·rename_i kvs e0
   obtain ⟨xs, g1, g2⟩ := h1 _ _ e0
   obtain ⟨kz, lo, vs, kv, o, es, ep, ho, hx, hdat, hrest⟩ := b0x I1 g1
   have I2 : ∃ H2 o2, Inv X pins σ H2 s1 ∧ s1.heap.get? a = some o2 ∧ o2.ExactDict ∧ (∃ es ep, o2.data = .dict es ep) ∧ Kp X.K H1 H2 ∧ HR X.K H2 M1 ∧ H2 a = some (.frz o2 (.dK xs)) ∧ KRep X.K H2 xs kvs := by
    rcases g1 with g1 | ⟨o2, g1⟩
    ·have kd := Kp.dict (K := X.K) (u := .frz o (.dK xs)) g1 (.inl ⟨_, rfl⟩)
     refine ⟨upd H1 a (.frz o (.dK xs)), o, I1.write (t' := s1.toks) (by rw [g1]; trivial) (.inl rfl) (fun b u _ e => e) ⟨o, ho⟩ ⟨ho, kz, lo, vs, kv, o, es, ep, ho, hx, hdat, hrest⟩, ho, hx, ⟨es, ep, hdat⟩, kd, fun c u ec => ?_, a0A, g2.kp kd⟩
     by_cases hc : c = a
     ·subst hc
      rw [e0] at ec; cases ec
      exact ⟨xs, .inr ⟨o, a0A⟩, g2.kp kd⟩
     ·exact (h1 c u ec).kp kd fun u _ q => by rw [a0p hc]; exact q
    ·obtain ⟨q1, q2, es', ep', q3, _⟩ := a3u I1.hok g1
     exact ⟨H1, o2, I1, q1, q2, ⟨es', ep', q3⟩, Kp.refl, h1, g1, g2⟩
   obtain ⟨H2, o2, I2, ho2, hx2, ⟨es2, ep2, hdat2⟩, kd, hh2, hfz, gr⟩ := I2
   refine a8U lo ho2 hx2 hdat2 fun s2 it hit ht hgn hs2 => ?_
   subst hs2 hit
   refine ⟨s1.heap.objs.size, [s1.heap.objs.size], _, _, _, rfl, I2.kept (t' := s1.toks) fun b o e => Heap.get?_push_of_some _ e, b2d a o2 _, ⟨es2, ep2, hdat2, _, Heap.get?_push_size _ rfl, rfl, rfl⟩, fun b hb => ?_, en ⟨a7L kvs, fun _ => True⟩ _ M1 _ (k1.trans kd) hh2 (b2C hfz gr) q1⟩
   have e : b = s1.heap.objs.size := by simpa using hb
   subst e
   exact I2.fpOk (Nat.le_refl _) (I2.hok.fresh (Nat.le_refl _))
  ·exact q1.elim
 ·exact q1.elim
end
noncomputable def b2m (p q : Po) (c : Int) : Po := norm (p ++ q.map fun x => (x.1, c * x.2))
theorem b1M (c : Int) (k : Int) : ∀ q : Po, co (q.map fun x => (x.1, c * x.2)) k = c * co q k
 | [] => by show (0 : Int) = c * 0; rw [Int.mul_zero]
 | x :: q => by
   show (if x.1 = k then c * x.2 else 0) + co (q.map fun x => (x.1, c * x.2)) k = c * ((if x.1 = k then x.2 else 0) + co q k)
   rw [b1M c k q, Int.mul_add]
   split
   ·rfl
   ·rw [Int.mul_zero]
theorem b1N (p q : Po) (c k : Int) : co (b2m p q c) k = co p k + c * co q k := by
 unfold b2m
 rw [a0F, a1o, b1M]
theorem b0D (a b k : Int) : ∀ p : Po, co (rawM p [(a, b)]) k = co p (k - a) * b
 | [] => by show (0 : Int) = 0 * b; rw [Int.zero_mul]
 | x :: p => by
   show (if x.1 + a = k then x.2 * b else 0) + co (rawM p [(a, b)]) k = ((if x.1 = k - a then x.2 else 0) + co p (k - a)) * b
   rw [b0D a b k p, Int.add_mul]
   by_cases h : x.1 + a = k
   ·rw [if_pos h, if_pos (by lia)]
   ·rw [if_neg h, if_neg (by lia), Int.zero_mul]
theorem b0C (a b c d k : Int) : ∀ p : Po, co (rawM p [(a, b), (c, d)]) k = co p (k - a) * b + co p (k - c) * d
 | [] => by show (0 : Int) = 0 * b + 0 * d; rw [Int.zero_mul, Int.zero_mul]; rfl
 | x :: p => by
   show (if x.1 + a = k then x.2 * b else 0) + ((if x.1 + c = k then x.2 * d else 0) + co (rawM p [(a, b), (c, d)]) k) = ((if x.1 = k - a then x.2 else 0) + co p (k - a)) * b + ((if x.1 = k - c then x.2 else 0) + co p (k - c)) * d
   rw [b0C a b c d k p, Int.add_mul, Int.add_mul]
   by_cases h : x.1 + a = k <;> by_cases g : x.1 + c = k
   ·rw [if_pos h, if_pos g, if_pos (by lia), if_pos (by lia)]; lia
   ·rw [if_pos h, if_neg g, if_pos (by lia), if_neg (by lia), Int.zero_mul]; lia
   ·rw [if_neg h, if_pos g, if_neg (by lia), if_pos (by lia), Int.zero_mul]; lia
   ·rw [if_neg h, if_neg g, if_neg (by lia), if_neg (by lia), Int.zero_mul, Int.zero_mul]; lia
section
variable {X : Cx}
end
theorem a3I {P P' : Program} {w w' : World} {h : Heap} {a : Addr} {vs : List (Key × Value)} (d : h.DictOf (a0m P w) a vs) (hi : ∀ x ∈ vs, ∃ i, x.1 = .inl i) : h.DictOf (a0m P' w') a vs := by
 obtain ⟨o, es, ep, h1, h2, h3, h4, h5, h6⟩ := d
 have hp : Pairs (a0m P' w') es.toList vs := by
  have key : ∀ {l : List DictEntry} {m : List (Key × Value)}, Pairs (a0m P w) l m → Pairs (a0m P' w') l m := fun {l m} q => by
   induction q with
   | nil => exact .nil
   | cons a b _ ih => exact .cons a b ih
  exact key h5
 refine ⟨o, es, ep, h1, h2, h3, fun e he => ?_, hp, h6⟩
 obtain ⟨k, hk, hh⟩ := h4 e he
 refine ⟨k, hk, ?_⟩
 obtain ⟨j, hj, ej⟩ := Array.mem_iff_getElem.mp he
 have hl : j < vs.length := by rw [← h5.length, Array.length_toList]; exact hj
 obtain ⟨k2, v2⟩ : Key × Value := vs[j]
 have e1 := (h5.get? (i := j) (e := e) (k := vs[j].1) (v := vs[j].2) (by rw [Array.getElem?_toList, Array.getElem?_eq_getElem hj, ej]) (by rw [List.getElem?_eq_getElem hl])).1
 have ek : k = vs[j].1 := (a0m P w).inj _ _ _ hk e1
 obtain ⟨i, hi⟩ := hi vs[j] (List.getElem_mem hl)
 rw [ek, hi] at hh ⊢
 exact hh
section
variable {X : Cx}
theorem a4m {K : PySem.W.Frag} {H : Hp} : ∀ {xs : List (Key × V)} {p : Po}, KRep K H xs (dkI p) → xs = p.map fun x => (.inl x.1, V.int x.2)
 | [], [], _ => rfl
 | [], _ :: _, h => h.elim
 | _ :: _, [], h => h.elim
 | x :: xs, y :: p, h => by
   have h1 : x.1 = .inl y.1 := h.1
   have h2 : x.2 = .int y.2 := a0n h.2.1
   rw [List.map_cons, a4m (xs := xs) (p := p) h.2.2]
   congr 1
   exact Prod.ext h1 h2
theorem a5d : ∀ {p : Po} {vs : List (Key × Value)}, KV (p.map fun x => ((.inl x.1 : Key), V.int x.2)) vs → (∀ x ∈ vs, ∃ i, x.1 = .inl i) ∧ ∀ k : Key, match valueAt vs k with | some v => ∃ (i j : Int) (t : Tok), k = .inl i ∧ v = .int j t ∧ (i, j) ∈ p | none => ∀ x ∈ p, k ≠ .inl x.1
 | [], vs, h => by
   cases h
   exact ⟨fun _ z => absurd z List.not_mem_nil, fun k => fun _ z => absurd z List.not_mem_nil⟩
 | x :: p, _, h => by
   cases h with
   | @cons _ q _ qs h1 h2 =>
     obtain ⟨i1, i2⟩ := a5d h2
     obtain ⟨a1, t, a2⟩ := h1
     have hq1 : q.1 = .inl x.1 := a1.symm
     refine ⟨fun y hy => ?_, fun k => ?_⟩
     ·rcases List.mem_cons.mp hy with e | e
      ·rw [e]; exact ⟨_, hq1⟩
      ·exact i1 y e
     ·have e : valueAt (q :: qs) k = if q.1 = k then some q.2 else valueAt qs k := by
       unfold valueAt
       rw [List.find?_cons]
       by_cases c : q.1 = k
       ·rw [if_pos c, decide_eq_true c]; rfl
       ·rw [if_neg c, decide_eq_false c]
      rw [e]
      by_cases c : q.1 = k
      ·rw [if_pos c]
       exact ⟨x.1, x.2, t, by rw [← c, hq1], a2, .head _⟩
      ·rw [if_neg c]
       have := i2 k
       split at this
       ·obtain ⟨i, j, t, q1, q2, q3⟩ := this
        exact ⟨i, j, t, q1, q2, .tail _ q3⟩
       ·intro y hy
        rcases List.mem_cons.mp hy with z | z
        ·rw [z, ← hq1]; exact fun w => c w.symm
        ·exact this y z
theorem a9a {A : Around} {s : Shared} {p : Po} {vs us : List (Key × Value)} (hp : CanP p) (h1 : KV (p.map fun x => ((.inl x.1 : Key), V.int x.2)) vs) (h2 : KV (p.map fun x => ((.inl x.1 : Key), V.int x.2)) us) : PySem.W.KeqHits A s us vs true := by
 have key : ∀ {q : Po} {ws : List (Key × Value)}, (∀ x ∈ q, x ∈ p) → KV (q.map fun x => ((.inl x.1 : Key), V.int x.2)) ws → PySem.W.KeqHits A s us ws true := fun {q} => by
  induction q with
  | nil =>
    intro ws _ h
    cases h
    exact .nil
  | cons x q ih =>
    intro ws hq h
    cases h with
    | @cons _ y _ ys a b =>
      obtain ⟨a1, t, a2⟩ := a
      obtain ⟨k, v⟩ := y
      have a1' : k = .inl x.1 := a1.symm
      have a2' : v = .int x.2 t := a2
      have e := (a5d h2).2 k
      split at e
      ·rename_i u eu
       obtain ⟨i, j, t2, q1, q2, q3⟩ := e
       have hxp := hq x (.head _)
       have e3 : i = x.1 := by rw [a1'] at q1; exact (Sum.inl.inj q1).symm
       have e4 : j = x.2 := by
        have c1 := a2z hp.1 q3
        have c2 := a2z hp.1 hxp
        dsimp only at c1
        rw [← c1, e3, c2]
       have hit : PySem.W.KeqHits A s us ((k, v) :: ys) (true && true) := .hit eu (by
        rw [a2', q2, e4]
        have := SeqAt.EqAt.int_int (A := A) (s := s) x.2 t x.2 t2
        simpa using this) (ih (fun z hz => hq z (.tail _ hz)) b)
       exact hit
      ·exact absurd a1' (e x (hq x (.head _)))
 exact key (fun _ z => z) h1
theorem b4F {A : Around} {pins : List (Addr × Obj)} {σ : St} {H : Hp} {s : Shared} (I : Inv X pins σ H s) (hu : A.units < cLine) {a b : Addr} {p : Po} {xs ys : List (Key × V)} (hp : CanP p) (h1 : Rd H a (.dK xs)) (h2 : KRep X.K H xs (dkI p)) (g1 : Rd H b (.dK ys)) (g2 : KRep X.K H ys (dkI p)) : SeqAt.RcAt A s (.ref a) (.ref b) true ∧ SeqAt.RcNeAt A s (.ref a) (.ref b) false := by
 obtain ⟨_, la, vs, kv, dv⟩ := b0x I h1
 obtain ⟨_, lb, us, ku, du⟩ := b0x I g1
 rw [a4m h2] at kv
 rw [a4m g2] at ku
 have hl : vs.length = us.length := kv.length.symm.trans ku.length
 have e1 : (vs.length == us.length && true) = true := by rw [hl]; simp
 refine ⟨fun prog w E Q q => ?_, fun prog w E Q q => ?_⟩
 ·exact PySem.W.keq_eq (knd := a0m prog w) la lb (a3I dv (a5d kv).1) (a3I du (a5d ku).1) hu (fun _ => a9a hp kv ku) (by rw [e1]; exact q)
 ·exact PySem.W.keq_ne (knd := a0m prog w) la lb (a3I dv (a5d kv).1) (a3I du (a5d ku).1) hu (fun _ => a9a hp kv ku) (by rw [e1]; exact q)
noncomputable def b7R : R3 := fun x y M Q => match x, y with
 | .adr a, .adr b => ∃ p : Po, M a = some (.fk (dkI p)) ∧ M b = some (.fk (dkI p)) ∧ CanP p ∧ Q (.bl false) M
 | _, _ => False
theorem b8s (hu : X.A.units + 64 < cLine) : OpR3 X (compareOp .NotEq) b7R := by
 intro pins s σ H x y v u Q2 I rx ry q
 obtain ⟨a, b, M, Q, r1, r2, hh, q, en⟩ := q
 unfold b7R at q
 split at q
 ·obtain ⟨p, e1, e2, hp, q⟩ := q
  obtain ⟨xs, h1, h2⟩ := hh _ _ e1
  obtain ⟨ys, g1, g2⟩ := hh _ _ e2
  obtain rfl := a0o r1
  obtain rfl := a0o r2
  cases rx
  cases ry
  exact (b4F (A := X.A) I (by lia) hp h1 h2 g1 g2).2 _ _ _ _ ⟨.bl _, H, I, rfl, en _ _ M H Kp.refl hh a2Q q⟩
 ·exact q.elim
end
noncomputable abbrev Rw := Nat → Int → Int
noncomputable def wlR (R : Rw) (k : Nat) (up : Bool) : Rw := fun j c => if j = k then (if up then R k c - R k (c - 1) + R (k + 1) c else R (k + 1) (c + 1)) else if j = k + 1 then (if up then R k (c - 1) else R k c + R (k + 1) c - R (k + 1) (c + 1)) else R j c
theorem b7o {R : Rw} {a b : Nat} {u v : Bool} (h : a + 1 < b ∨ b + 1 < a) : wlR (wlR R a u) b v = wlR (wlR R b v) a u := by
 funext j c
 cases u <;> cases v <;> (unfold wlR; simp only [if_true, if_false, Bool.false_eq_true]; (repeat' split) <;> first | rfl | lia | (subst_vars; first | lia | rfl))
theorem b7n {R : Rw} {a : Nat} {u : Bool} : wlR (wlR R a u) a (!u) = R := by
 funext j c
 have n1 : ¬ a + 1 = a := by lia
 cases u
 ·show wlR (wlR R a false) a true j c = R j c
  unfold wlR
  simp only [if_true, if_false, Bool.false_eq_true, n1]
  by_cases h : j = a
  ·subst h
   simp only [if_true]
   rw [show c - 1 + 1 = c by lia]; lia
  ·rw [if_neg h]
   by_cases g : j = a + 1
   ·rw [if_pos g, g, show c - 1 + 1 = c by lia]
   ·rw [if_neg g, if_neg h, if_neg g]
 ·show wlR (wlR R a true) a false j c = R j c
  unfold wlR
  simp only [if_true, if_false, Bool.false_eq_true, n1]
  by_cases h : j = a
  ·subst h
   simp only [if_true]
   rw [show c + 1 - 1 = c by lia]
  ·rw [if_neg h]
   by_cases g : j = a + 1
   ·rw [if_pos g, g, show c + 1 - 1 = c by lia]; lia
   ·rw [if_neg g, if_neg h, if_neg g]
theorem a8l {R : Rw} {a : Nat} {u : Bool} : wlR (wlR (wlR R a u) (a + 1) u) a u = wlR (wlR (wlR R (a + 1) u) a u) (a + 1) u := by
 funext j c
 have n1 : ¬ a + 1 = a := by lia
 have n2 : ¬ a = a + 1 := by lia
 have n3 : ¬ a + 1 + 1 = a := by lia
 have n4 : ¬ a + 1 + 1 = a + 1 := by lia
 have n5 : ¬ a = a + 1 + 1 := by lia
 have n6 : ¬ a + 1 = a + 1 + 1 := by lia
 by_cases h1 : j = a
 ·subst h1
  cases u <;> (simp only [wlR, if_true, if_false, Bool.false_eq_true, n1, n2, n3, n4, n5, n6]; try lia)
 ·by_cases h2 : j = a + 1
  ·subst h2
   cases u <;> (simp only [wlR, if_true, if_false, Bool.false_eq_true, n1, n2, n3, n4, n5, n6]; try lia)
  ·by_cases h3 : j = a + 1 + 1
   ·subst h3
    cases u <;> (simp only [wlR, if_true, if_false, Bool.false_eq_true, n1, n2, n3, n4, n5, n6]; try lia)
   ·cases u <;> (simp only [wlR, if_true, if_false, Bool.false_eq_true, h1, h2, h3])
noncomputable def wdR (R : Rw) : List Int → Rw
 | [] => R
 | l :: w => wdR (wlR R (l.natAbs - 1) (decide (0 < l))) w
theorem a2O : ∀ (w v : List Int) (R : Rw), wdR R (w ++ v) = wdR (wdR R w) v
 | [], v, R => rfl
 | l :: w, v, R => a2O w v _
theorem b7p {n : Int} {w v : List Int} (h : RelW n w v) : ∀ R, wdR R w = wdR R v := by
 induction h with
 | refl w => intro R; rfl
 | symm _ ih => intro R; exact (ih R).symm
 | trans _ _ i1 i2 => intro R; exact (i1 R).trans (i2 R)
 | ctx a b _ _ _ ih => intro R; rw [a2O, a2O, a2O, a2O, ih]
 | @far a b ha hb hab =>
   intro R
   obtain ⟨a1, a2⟩ := ha
   obtain ⟨b1, b2⟩ := hb
   exact b7o (by lia)
 | @three p q hp hq hs hd =>
   intro R
   obtain ⟨p1, p2⟩ := hp
   obtain ⟨q1, q2⟩ := hq
   have hsg : decide (0 < p) = decide (0 < q) := by
    have : (0 < p ∧ 0 < q) ∨ (p < 0 ∧ q < 0) := by
     rcases Int.lt_trichotomy p 0 with c | c | c
     ·rcases Int.lt_trichotomy q 0 with d | d | d
      ·exact .inr ⟨c, d⟩
      ·lia
      ·exact absurd (Int.mul_neg_of_neg_of_pos c d) (by lia)
     ·lia
     ·rcases Int.lt_trichotomy q 0 with d | d | d
      ·exact absurd (Int.mul_neg_of_pos_of_neg c d) (by lia)
      ·lia
      ·exact .inl ⟨c, d⟩
    rcases this with ⟨c, d⟩ | ⟨c, d⟩
    ·rw [decide_eq_true c, decide_eq_true d]
    ·rw [decide_eq_false (by lia), decide_eq_false (by lia)]
   show wlR (wlR (wlR R (p.natAbs - 1) (decide (0 < p))) (q.natAbs - 1) (decide (0 < q))) (p.natAbs - 1) (decide (0 < p)) = wlR (wlR (wlR R (q.natAbs - 1) (decide (0 < q))) (p.natAbs - 1) (decide (0 < p))) (q.natAbs - 1) (decide (0 < q))
   rw [hsg]
   rcases (show q.natAbs - 1 = p.natAbs - 1 + 1 ∨ p.natAbs - 1 = q.natAbs - 1 + 1 by
    have : p.natAbs + 1 = q.natAbs ∨ q.natAbs + 1 = p.natAbs := by
     by_cases c : 0 < p
     ·have : 0 < q := by have := of_decide_eq_true (hsg ▸ decide_eq_true c : decide (0 < q) = true); exact this
      lia
     ·have : ¬ 0 < q := fun d => by rw [decide_eq_true d, decide_eq_false c] at hsg; cases hsg
      lia
    lia) with e | e
   ·rw [e]; exact a8l
   ·rw [e]; exact a8l.symm
 | @out l hl =>
   intro R
   obtain ⟨l1, l2⟩ := hl
   show wlR (wlR R (l.natAbs - 1) (decide (0 < l))) ((-l).natAbs - 1) (decide (0 < -l)) = R
   rw [Int.natAbs_neg, show decide (0 < -l) = !decide (0 < l) by by_cases c : 0 < l; rw [decide_eq_true c, decide_eq_false (by lia)]; rfl; rw [decide_eq_false c, decide_eq_true (by lia)]; rfl]
   exact b7n
noncomputable def rowF (ps : List Po) : Rw := fun j c => co (ps.getD j []) c
theorem getD_set {α : Type} {ps : List α} {k j : Nat} {u z : α} (hk : k < ps.length) : (ps.set k u).getD j z = if j = k then u else ps.getD j z := by
 rw [List.getD_eq_getElem?_getD, List.getD_eq_getElem?_getD]
 by_cases c : j = k
 ·subst c
  rw [if_pos rfl, List.getElem?_set_self hk]; rfl
 ·rw [if_neg c, List.getElem?_set_ne (fun z => c z.symm)]
noncomputable def oneP (r c : Int) : Po := if r = c then [(0, 1)] else []
noncomputable def upP : Po := [(1, 1)]
noncomputable def a4X : Po := [(-1, 1)]
noncomputable def lupP : Po := [(0, 1), (1, -1)]
noncomputable def a3N : Po := [(-1, -1), (0, 1)]
noncomputable def GdP (b B : Nat) (p : Po) : Prop := CanP p ∧ PwB b p ∧ N1 p ≤ B
theorem CanP.len {p : Po} (h : CanP p) {b : Nat} (hb : PwB b p) : p.length ≤ 2 * b + 1 := by
 have h1 : (p.map Prod.fst).Nodup := List.pairwise_map.mpr (h.1.imp fun h z => Int.ne_of_lt h z)
 have h2 : (p.map Prod.fst).length ≤ (near b).length := List.Nodup.length_le_of_subset h1 fun k hk => by
  obtain ⟨x, hx, rfl⟩ := List.mem_map.mp hk
  exact a7H (hb x hx)
 rwa [List.length_map, a7G] at h2
noncomputable def wl1 (l : Int) (a b : Po) : Po := if 0 < l then addP (a0K a lupP) b else a0K b a4X
noncomputable def wl2 (l : Int) (a b : Po) : Po := if 0 < l then a0K a upP else addP a (a0K b a3N)
noncomputable def wlP (ps : List Po) (l : Int) : List Po := ps.take (l.natAbs - 1) ++ ([wl1 l (ps.getD (l.natAbs - 1) []) (ps.getD l.natAbs []), wl2 l (ps.getD (l.natAbs - 1) []) (ps.getD l.natAbs [])] ++ ps.drop (l.natAbs + 1))
theorem GdP.add {b B C : Nat} {p q : Po} (hp : GdP b B p) (hq : GdP b C q) : GdP b (B + C) (addP p q) := ⟨a0z _, b9k hp.2.1 hq.2.1, Nat.le_trans (b9m p q) (Nat.add_le_add hp.2.2 hq.2.2)⟩
theorem GdP.mul {a b B C : Nat} {p q : Po} (hp : GdP a B p) (hq : GdP b C q) : GdP (a + b) (B * C) (a0K p q) := ⟨a0z _, b9j hp.2.1 hq.2.1, Nat.le_trans (b9l p q) (Nat.mul_le_mul hp.2.2 hq.2.2)⟩
theorem GdP.mono {a b B C : Nat} {p : Po} (hp : GdP a B p) (h1 : a ≤ b) (h2 : B ≤ C) : GdP b C p := ⟨hp.1, hp.2.1.mono h1, Nat.le_trans hp.2.2 h2⟩
theorem b4i : GdP 1 1 upP := ⟨⟨by decide, by decide⟩, by unfold PwB; decide, by decide⟩
theorem a9f : GdP 1 1 a4X := ⟨⟨by decide, by decide⟩, by unfold PwB; decide, by decide⟩
theorem a7Q : GdP 1 2 lupP := ⟨⟨by decide, by decide⟩, by unfold PwB; decide, by decide⟩
theorem a4R : GdP 1 2 a3N := ⟨⟨by decide, by decide⟩, by unfold PwB; decide, by decide⟩
theorem b5o {a b : Nat} {p q : Po} (hp : PwB a p) (hq : PwB b q) : ∀ x ∈ p, ∀ y ∈ q, x.1 + y.1 ∈ near (a + b) := fun x hx y hy => a7H (by
 have h1 := hp x hx
 have h2 := hq y hy
 lia)
theorem b0Z {a : Nat} {p : Po} (hp : PwB a p) : ∀ x ∈ p, x.1 ∈ near a := fun x hx => a7H (hp x hx)
theorem b8y {p : Po} {b B : Nat} (h : GdP b B p) (hB : B < 2 ^ 64) : ∀ x ∈ p, x.2.natAbs < 2 ^ 64 := fun x hx => Nat.lt_of_le_of_lt (Nat.le_trans (c1l hx) h.2.2) hB
theorem b6k {b B : Nat} {l : Int} {p q : Po} (hp : GdP b B p) (hq : GdP b B q) : GdP (b + 1) (3 * B) (wl1 l p q) := by
 unfold wl1
 split
 ·exact ((hp.mul a7Q).add (hq.mono (by lia) (Nat.le_refl _))).mono (Nat.le_refl _) (by lia)
 ·exact (hq.mul a9f).mono (Nat.le_refl _) (by lia)
theorem b6j {b B : Nat} {l : Int} {p q : Po} (hp : GdP b B p) (hq : GdP b B q) : GdP (b + 1) (3 * B) (wl2 l p q) := by
 unfold wl2
 split
 ·exact (hp.mul b4i).mono (Nat.le_refl _) (by lia)
 ·exact ((hp.mono (b := b + 1) (by lia) (Nat.le_refl _)).add (hq.mul a4R)).mono (Nat.le_refl _) (by lia)
theorem a7b {ps : List Po} {l : Int} (h1 : 1 ≤ l.natAbs) (h2 : l.natAbs < ps.length) : (wlP ps l).length = ps.length := by
 unfold wlP
 rw [List.length_append, List.length_append, List.length_take, List.length_drop]
 simp only [List.length_cons, List.length_nil]
 lia
theorem a4p {b B : Nat} {ps : List Po} (h : ∀ p ∈ ps, GdP b B p) {i : Nat} (hi : i < ps.length) : GdP b B (ps.getD i []) := h _ (by rw [List.getD_eq_getElem?_getD, List.getElem?_eq_getElem hi]; exact List.getElem_mem _)
theorem b5j {b B : Nat} {ps : List Po} {l : Int} (h : ∀ p ∈ ps, GdP b B p) (h1 : 1 ≤ l.natAbs) (h2 : l.natAbs < ps.length) : ∀ p ∈ wlP ps l, GdP (b + 1) (3 * B) p := fun p hp => by
 unfold wlP at hp
 have g0 := a4p h (i := l.natAbs - 1) (by lia)
 have g1 := a4p h (i := l.natAbs) h2
 rcases List.mem_append.mp hp with z | z
 ·exact (h p (List.mem_of_mem_take z)).mono (by lia) (by lia)
 rcases List.mem_append.mp z with z | z
 ·rcases List.mem_cons.mp z with e | z
  ·rw [e]; exact b6k g0 g1
  ·rw [List.mem_singleton.mp z]; exact b6j g0 g1
 ·exact (h p (List.mem_of_mem_drop z)).mono (by lia) (by lia)
noncomputable def idP (n : Int) : List (List Po) := (a0g n).map fun r => (a0g n).map fun c => oneP r c
noncomputable def tabP (n : Int) (ws : List Int) : List (List Po) := ws.foldl (fun rs l => rs.map fun ps => wlP ps l) (idP n)
noncomputable def a9K (n : Nat) (b B : Nat) (rs : List (List Po)) : Prop := rs.length = n ∧ ∀ ps ∈ rs, ps.length = n ∧ ∀ p ∈ ps, GdP b B p
theorem a7P (r c : Int) : GdP 0 1 (oneP r c) := by
 unfold oneP
 split
 ·exact ⟨⟨by decide, by decide⟩, by unfold PwB; decide, by decide⟩
 ·exact ⟨⟨by decide, by decide⟩, by unfold PwB; decide, by decide⟩
theorem a2N (n : Int) : a9K n.toNat 0 1 (idP n) := by
 unfold idP
 refine ⟨by rw [List.length_map, a0e], fun ps hps => ?_⟩
 obtain ⟨r, _, rfl⟩ := List.mem_map.mp hps
 refine ⟨by rw [List.length_map, a0e], fun p hp => ?_⟩
 obtain ⟨c, _, rfl⟩ := List.mem_map.mp hp
 exact a7P r c
theorem b4j {n b B : Nat} {rs : List (List Po)} (h : a9K n b B rs) {l : Int} (h1 : 1 ≤ l.natAbs) (h2 : l.natAbs < n) : a9K n (b + 1) (3 * B) (rs.map fun ps => wlP ps l) := by
 refine ⟨by rw [List.length_map]; exact h.1, fun ps hps => ?_⟩
 obtain ⟨qs, hq, rfl⟩ := List.mem_map.mp hps
 obtain ⟨g1, g2⟩ := h.2 qs hq
 exact ⟨by rw [a7b h1 (by rw [g1]; exact h2)]; exact g1, b5j g2 h1 (by rw [g1]; exact h2)⟩
theorem a9e {n : Nat} : ∀ (ws : List Int) {b B : Nat} {rs : List (List Po)}, a9K n b B rs → (∀ l ∈ ws, 1 ≤ l.natAbs ∧ l.natAbs < n) → a9K n (b + ws.length) (3 ^ ws.length * B) (ws.foldl (fun rs l => rs.map fun ps => wlP ps l) rs)
 | [], b, B, rs, h, _ => by
   show a9K n (b + 0) (3 ^ 0 * B) rs
   rw [Nat.pow_zero, Nat.one_mul]; exact h
 | l :: w, b, B, rs, h, hw => by
   have h2 := a9e w (b4j h (hw l (.head _)).1 (hw l (.head _)).2) (fun x hx => hw x (.tail _ hx))
   have e : 3 ^ w.length * (3 * B) = 3 ^ (w.length + 1) * B := by rw [Nat.pow_succ, Nat.mul_assoc]
   rw [e, Nat.add_assoc, Nat.add_comm 1] at h2
   exact h2
theorem a0P {n : Int} {ws : List Int} (hw : WordOK n ws) : a9K n.toNat ws.length (3 ^ ws.length) (tabP n ws) := by
 have h := a9e ws (a2N n) (fun l hl => by obtain ⟨a, b⟩ := hw l hl; exact ⟨by lia, by lia⟩)
 rwa [Nat.zero_add, Nat.mul_one] at h
theorem a8r (n : Int) (ws : List Int) (l : Int) : tabP n (ws ++ [l]) = (tabP n ws).map fun ps => wlP ps l := by unfold tabP; rw [List.foldl_append]; rfl
noncomputable def a2n (M : MH) (as : List Addr) (rs : List (List Po)) : Prop := as.length = rs.length ∧ ∀ (i : Nat) (a : Addr) (ps : List Po), as[i]? = some a → rs[i]? = some ps → M a = some (.lst (ps.map poT))
theorem a2n.sub {M M' : MH} {as : List Addr} {rs : List (List Po)} (h : a2n M as rs) (s : Sub M M') : a2n M' as rs := ⟨h.1, fun i a l h1 h2 => s _ _ (h.2 i a l h1 h2)⟩
theorem a2n.nil {M : MH} : a2n M [] [] := ⟨rfl, fun i a l z => by simp at z⟩
theorem a2n.snoc {M : MH} {as : List Addr} {rs : List (List Po)} {a : Addr} {ps : List Po} (h : a2n M as rs) (ha : M a = some (.lst (ps.map poT))) : a2n M (as ++ [a]) (rs ++ [ps]) := by
 refine ⟨by rw [List.length_append, List.length_append, h.1]; rfl, fun i b k h1 h2 => ?_⟩
 by_cases z : i < as.length
 ·rw [List.getElem?_append_left z] at h1
  rw [List.getElem?_append_left (by rw [← h.1]; exact z)] at h2
  exact h.2 i b k h1 h2
 ·rw [List.getElem?_append_right (by lia)] at h1
  rw [List.getElem?_append_right (by rw [← h.1]; lia), ← h.1] at h2
  obtain ⟨l1, e1⟩ := List.getElem?_eq_some_iff.mp h1
  have e : i - as.length = 0 := by rw [List.length_singleton] at l1; lia
  rw [e] at h1 h2
  obtain rfl := Option.some.inj h1
  obtain rfl := Option.some.inj h2
  exact ha
noncomputable def FrP (M : MH) (as : List Addr) : Prop := ∀ a ∈ as, M a = none
theorem FrP.snoc {M : MH} {as : List Addr} {a : Addr} (h : FrP M as) (ha : M a = none) : FrP M (as ++ [a]) := fun b hb => by
 rcases List.mem_append.mp hb with z | z
 ·exact h b z
 ·rw [List.mem_singleton.mp z]; exact ha
theorem a9W {α : Type} (u x : α) (r : List α) : ∀ A : List α, (A ++ x :: r).set A.length u = A ++ u :: r
 | [] => rfl
 | a :: A => by
   show a :: ((A ++ x :: r).set A.length u) = a :: (A ++ u :: r)
   rw [a9W u x r A]
theorem b2S {ps : List Po} {k : Nat} {l : Int} (hk : l.natAbs = k + 1) (h2 : k + 1 < ps.length) : wlP ps l = (ps.set k (wl1 l (ps.getD k []) (ps.getD (k + 1) []))).set (k + 1) (wl2 l (ps.getD k []) (ps.getD (k + 1) [])) := by
 unfold wlP
 rw [hk, Nat.add_sub_cancel]
 generalize wl1 l (ps.getD k []) (ps.getD (k + 1) []) = u
 generalize wl2 l (ps.getD k []) (ps.getD (k + 1) []) = v
 have e1 : ps.drop k = ps[k] :: ps.drop (k + 1) := List.drop_eq_getElem_cons (by lia)
 have e2 : ps.drop (k + 1) = ps[k + 1] :: ps.drop (k + 2) := List.drop_eq_getElem_cons (by lia)
 have e : ps = ps.take k ++ ps[k] :: ps[k + 1] :: ps.drop (k + 2) := by rw [← e2, ← e1, List.take_append_drop]
 have hA : (ps.take k).length = k := by rw [List.length_take]; lia
 generalize ps.take k = A at e hA ⊢
 generalize ps.drop (k + 2) = B at e ⊢
 generalize ps[k] = x at e
 generalize ps[k + 1] = y at e
 subst hA
 rw [e, a9W u x (y :: B) A]
 have e3 : A ++ u :: y :: B = (A ++ [u]) ++ y :: B := by rw [List.append_assoc]; rfl
 have e4 := a9W v y B (A ++ [u])
 rw [List.length_append, List.length_singleton] at e4
 rw [e3, e4, List.append_assoc]; rfl
theorem a2n.nd {M : MH} {as : List Addr} {rs : List (List Po)} {a : Addr} (h : a2n M as rs) (hN : as.Nodup) (ha : M a = none) : (as ++ [a]).Nodup := List.nodup_append.mpr ⟨hN, List.pairwise_singleton _ _, fun b hb c hc z => by
 rw [List.mem_singleton.mp hc] at z
 obtain ⟨q, hq⟩ := List.getElem?_of_mem hb
 obtain ⟨l, el⟩ : ∃ l, rs[q]? = some l := ⟨_, List.getElem?_eq_getElem (by rw [← h.1]; exact (List.getElem?_eq_some_iff.mp hq).1)⟩
 rw [← z, h.2 q b l hq el] at ha; cases ha⟩
theorem b7K {ps : List Po} {l : Int} (h1 : 1 ≤ l.natAbs) (h2 : l.natAbs < ps.length) : rowF (wlP ps l) = wlR (rowF ps) (l.natAbs - 1) (decide (0 < l)) := by
 obtain ⟨k, hk⟩ : ∃ k : Nat, l.natAbs = k + 1 := ⟨l.natAbs - 1, by lia⟩
 rw [b2S hk (by lia)]
 funext j c
 have hk1 : l.natAbs - 1 = k := by lia
 rw [hk1]
 unfold rowF wlR
 rw [getD_set (by rw [List.length_set]; lia), getD_set (by lia)]
 have n2 : ¬ k + 1 = k := by lia
 by_cases a : j = k
 ·have b : ¬ j = k + 1 := by lia
  subst a
  simp only [b, if_true, if_false]
  unfold wl1
  by_cases u : 0 < l
  ·rw [if_pos u, decide_eq_true u, if_pos rfl]
   unfold addP a0K lupP
   rw [a0F, a1o, a0F, b0C, Int.sub_zero]; lia
  ·rw [if_neg u, decide_eq_false u, if_neg (by decide)]
   unfold a0K a4X
   rw [a0F, b0D, show c - -1 = c + 1 by lia]; lia
 ·by_cases b : j = k + 1
  ·subst b
   simp only [n2, if_true, if_false]
   unfold wl2
   by_cases u : 0 < l
   ·rw [if_pos u, decide_eq_true u, if_pos rfl]
    unfold a0K upP
    rw [a0F, b0D]; lia
   ·rw [if_neg u, decide_eq_false u, if_neg (by decide)]
    unfold addP a0K a3N
    rw [a0F, a1o, a0F, b0C, Int.sub_zero, show c - -1 = c + 1 by lia]; lia
  ·rw [if_neg b, if_neg a, if_neg a, if_neg b]
noncomputable def wdP (ps : List Po) (ws : List Int) : List Po := ws.foldl wlP ps
theorem a5B {n : Nat} : ∀ (ws : List Int) (ps : List Po), ps.length = n → (∀ l ∈ ws, 1 ≤ l.natAbs ∧ l.natAbs < n) → (wdP ps ws).length = n
 | [], ps, h, _ => h
 | l :: w, ps, h, hw => by
   obtain ⟨a, b⟩ := hw l (.head _)
   exact a5B w (wlP ps l) (by rw [a7b a (by lia)]; exact h) fun x hx => hw x (.tail _ hx)
theorem a4K {n : Nat} : ∀ (ws : List Int) (ps : List Po), ps.length = n → (∀ l ∈ ws, 1 ≤ l.natAbs ∧ l.natAbs < n) → rowF (wdP ps ws) = wdR (rowF ps) ws
 | [], ps, _, _ => rfl
 | l :: w, ps, h, hw => by
   obtain ⟨a, b⟩ := hw l (.head _)
   show rowF (wdP (wlP ps l) w) = wdR (wlR (rowF ps) (l.natAbs - 1) (decide (0 < l))) w
   rw [← b7K a (by lia)]
   exact a4K w (wlP ps l) (by rw [a7b a (by lia)]; exact h) fun x hx => hw x (.tail _ hx)
theorem a2i (n : Int) (ws : List Int) : tabP n ws = (idP n).map fun ps => wdP ps ws := by
 have key : ∀ (ws : List Int) (rs : List (List Po)), ws.foldl (fun rs l => rs.map fun ps => wlP ps l) rs = rs.map fun ps => wdP ps ws := fun ws => by
  induction ws with
  | nil => intro rs; exact (List.map_id rs).symm
  | cons l w ih =>
    intro rs
    rw [List.foldl_cons, ih, List.map_map]; rfl
 exact key ws (idP n)
theorem b0Y : ∀ {p q : List Po}, p.length = q.length → (∀ x ∈ p, CanP x) → (∀ x ∈ q, CanP x) → rowF p = rowF q → p = q := fun {p q} hl hp hq h => by
 refine List.ext_getElem hl fun i h1 h2 => ?_
 refine a1x (hp _ (List.getElem_mem _)) (hq _ (List.getElem_mem _)) fun c => ?_
 have e := congrFun (congrFun h i) c
 unfold rowF at e
 rw [List.getD_eq_getElem?_getD, List.getD_eq_getElem?_getD, List.getElem?_eq_getElem h1, List.getElem?_eq_getElem h2] at e
 exact e
theorem a1Q {n : Int} {ws : List Int} (h : WordOK n ws) : ∀ l ∈ ws, 1 ≤ l.natAbs ∧ l.natAbs < n.toNat := fun l hl => by
 obtain ⟨a, b⟩ := h l hl
 exact ⟨by lia, by lia⟩
theorem b7u {n : Int} {w v : List Int} (h : RelW n w v) (hw : WordOK n w) (hv : WordOK n v) : tabP n w = tabP n v := by
 have g1 := a0P hw
 have g2 := a0P hv
 rw [a2i] at g1 g2
 rw [a2i, a2i]
 refine List.map_congr_left fun ps hps => ?_
 have hl : ps.length = n.toNat := ((a2N n).2 ps hps).1
 refine b0Y (by rw [a5B w ps hl (a1Q hw), a5B v ps hl (a1Q hv)]) (fun x hx => ((g1.2 _ (List.mem_map.mpr ⟨ps, hps, rfl⟩)).2 x hx).1) (fun x hx => ((g2.2 _ (List.mem_map.mpr ⟨ps, hps, rfl⟩)).2 x hx).1) ?_
 rw [a4K w ps hl (a1Q hw), a4K v ps hl (a1Q hv), b7p h]
noncomputable def SuN : Nat → (Nat → Int) → Int
 | 0, _ => 0
 | m + 1, g => SuN m g + g m
theorem a3z {m : Nat} {f g : Nat → Int} (h : ∀ i, i < m → f i = g i) : SuN m f = SuN m g := by
 induction m with
 | zero => rfl
 | succ m ih =>
   show SuN m f + f m = SuN m g + g m
   rw [ih fun i hi => h i (by lia), h m (by lia)]
theorem b9d {m k : Nat} {f g : Nat → Int} (hk : k + 1 < m) (h : ∀ i, i ≠ k → i ≠ k + 1 → f i = g i) (h2 : f k + f (k + 1) = g k + g (k + 1)) : SuN m f = SuN m g := by
 induction m with
 | zero => lia
 | succ m ih =>
   show SuN m f + f m = SuN m g + g m
   by_cases c : k + 1 < m
   ·rw [ih c, h m (by lia) (by lia)]
   ·obtain rfl : m = k + 1 := by lia
    show (SuN k f + f k) + f (k + 1) = (SuN k g + g k) + g (k + 1)
    rw [a3z (fun i hi => h i (by lia) (by lia))]; lia
theorem b6E {m : Nat} : ∀ (ws : List Int) (R : Rw) (c : Int), (∀ l ∈ ws, 1 ≤ l.natAbs ∧ l.natAbs < m) → SuN m (fun j => wdR R ws j c) = SuN m fun j => R j c
 | [], R, c, _ => rfl
 | l :: w, R, c, hw => by
   obtain ⟨a, b⟩ := hw l (.head _)
   show SuN m (fun j => wdR (wlR R (l.natAbs - 1) (decide (0 < l))) w j c) = _
   rw [b6E w _ c fun x hx => hw x (.tail _ hx)]
   refine b9d (k := l.natAbs - 1) (by lia) (fun i h1 h2 => by unfold wlR; rw [if_neg h1, if_neg h2]) ?_
   have n1 : ¬ l.natAbs - 1 + 1 = l.natAbs - 1 := by lia
   cases decide (0 < l) <;> (simp only [wlR, if_true, if_false, Bool.false_eq_true, n1]; lia)
noncomputable def cv : Po → (Int → Int) → Int → Int
 | [], _, _ => 0
 | x :: a, f, c => x.2 * f (c - x.1) + cv a f c
theorem b1K (x : Int × Int) (c : Int) : ∀ b : Po, co (b.map fun y => (x.1 + y.1, x.2 * y.2)) c = x.2 * co b (c - x.1)
 | [] => by show (0 : Int) = x.2 * 0; rw [Int.mul_zero]
 | y :: b => by
   show (if x.1 + y.1 = c then x.2 * y.2 else 0) + co (b.map fun y => (x.1 + y.1, x.2 * y.2)) c = x.2 * ((if y.1 = c - x.1 then y.2 else 0) + co b (c - x.1))
   rw [b1K x c b, Int.mul_add]
   by_cases h : x.1 + y.1 = c
   ·rw [if_pos h, if_pos (by lia)]
   ·rw [if_neg h, if_neg (by lia), Int.mul_zero]
theorem a5Z (b : Po) (c : Int) : ∀ a : Po, co (rawM a b) c = cv a (co b) c
 | [] => rfl
 | x :: a => by
   show co ((b.map fun y => (x.1 + y.1, x.2 * y.2)) ++ rawM a b) c = x.2 * co b (c - x.1) + cv a (co b) c
   rw [a1o, b1K, a5Z b c a]
theorem c1c (f g : Int → Int) (c : Int) : ∀ a : Po, cv a (fun c => f c - f (c - 1) + g c) c = cv a f c - cv a f (c - 1) + cv a g c
 | [] => rfl
 | x :: a => by
   show x.2 * (f (c - x.1) - f (c - x.1 - 1) + g (c - x.1)) + cv a (fun c => f c - f (c - 1) + g c) c = (x.2 * f (c - x.1) + cv a f c) - (x.2 * f (c - 1 - x.1) + cv a f (c - 1)) + (x.2 * g (c - x.1) + cv a g c)
   rw [c1c f g c a, Int.mul_add, Int.mul_sub, show c - x.1 - 1 = c - 1 - x.1 by lia]; lia
theorem c1e (f g : Int → Int) (c : Int) : ∀ a : Po, cv a (fun c => f c + g c - g (c + 1)) c = cv a f c + cv a g c - cv a g (c + 1)
 | [] => rfl
 | x :: a => by
   show x.2 * (f (c - x.1) + g (c - x.1) - g (c - x.1 + 1)) + cv a (fun c => f c + g c - g (c + 1)) c = (x.2 * f (c - x.1) + cv a f c) + (x.2 * g (c - x.1) + cv a g c) - (x.2 * g (c + 1 - x.1) + cv a g (c + 1))
   rw [c1e f g c a, Int.mul_sub, Int.mul_add, show c - x.1 + 1 = c + 1 - x.1 by lia]; lia
theorem b8T (f : Int → Int) (s c : Int) : ∀ a : Po, cv a (fun c => f (c + s)) c = cv a f (c + s)
 | [] => rfl
 | x :: a => by
   show x.2 * f (c - x.1 + s) + cv a (fun c => f (c + s)) c = x.2 * f (c + s - x.1) + cv a f (c + s)
   rw [b8T f s c a, show c - x.1 + s = c + s - x.1 by lia]
theorem b6A (m : Nat) (f g h : Nat → Int) : SuN m (fun i => f i - g i + h i) = SuN m f - SuN m g + SuN m h := by
 induction m with
 | zero => rfl
 | succ m ih => show SuN m (fun i => f i - g i + h i) + (f m - g m + h m) = (SuN m f + f m) - (SuN m g + g m) + (SuN m h + h m); rw [ih]; lia
theorem b5c (m : Nat) (f g h : Nat → Int) : SuN m (fun i => f i + g i - h i) = SuN m f + SuN m g - SuN m h := by
 induction m with
 | zero => rfl
 | succ m ih => show SuN m (fun i => f i + g i - h i) + (f m + g m - h m) = (SuN m f + f m) + (SuN m g + g m) - (SuN m h + h m); rw [ih]; lia
noncomputable def mrow (r : List Po) (T : Nat → Rw) (m : Nat) : Rw := fun j c => SuN m fun i => cv (r.getD i []) (T i j) c
theorem b8A (r : List Po) (T : Nat → Rw) (m k : Nat) (u : Bool) : mrow r (fun i => wlR (T i) k u) m = wlR (mrow r T m) k u := by
 have n1 : ¬ k + 1 = k := by lia
 funext j c
 by_cases h1 : j = k
 ·subst h1
  cases u
  ·have e : ∀ i, wlR (T i) j false j = fun c => T i (j + 1) (c + 1) := fun i => by funext c; unfold wlR; rw [if_pos rfl, if_neg (by decide)]
   unfold mrow
   simp only [e, b8T]
   unfold wlR
   rw [if_pos rfl, if_neg (by decide)]
  ·have e : ∀ i, wlR (T i) j true j = fun c => T i j c - T i j (c - 1) + T i (j + 1) c := fun i => by funext c; unfold wlR; rw [if_pos rfl, if_pos rfl]
   unfold mrow
   simp only [e, c1c, b6A]
   unfold wlR
   rw [if_pos rfl, if_pos rfl]
 ·by_cases h2 : j = k + 1
  ·subst h2
   cases u
   ·have e : ∀ i, wlR (T i) k false (k + 1) = fun c => T i k c + T i (k + 1) c - T i (k + 1) (c + 1) := fun i => by funext c; unfold wlR; rw [if_neg n1, if_pos rfl, if_neg (by decide)]
    unfold mrow
    simp only [e, c1e, b5c]
    unfold wlR
    rw [if_neg n1, if_pos rfl, if_neg (by decide)]
   ·have e : ∀ i, wlR (T i) k true (k + 1) = fun c => T i k (c + -1) := fun i => by funext c; unfold wlR; rw [if_neg n1, if_pos rfl, if_pos rfl]; rfl
    unfold mrow
    simp only [e]
    unfold wlR
    rw [if_neg n1, if_pos rfl, if_pos rfl]
    exact a3z fun i _ => b8T (T i k) (-1) c _
  ·have e : ∀ i, wlR (T i) k u j = T i j := fun i => by funext c; unfold wlR; rw [if_neg h1, if_neg h2]
   unfold mrow
   simp only [e]
   unfold wlR
   rw [if_neg h1, if_neg h2]
theorem b3N (r : List Po) (m : Nat) : ∀ (vs : List Int) (T : Nat → Rw), mrow r (fun i => wdR (T i) vs) m = wdR (mrow r T m) vs
 | [], T => rfl
 | l :: v, T => by
   show mrow r (fun i => wdR (wlR (T i) (l.natAbs - 1) (decide (0 < l))) v) m = wdR (wlR (mrow r T m) (l.natAbs - 1) (decide (0 < l))) v
   rw [b3N r m v, b8A]
theorem b5b {m j : Nat} {g : Nat → Int} (h : ∀ i, i < m → i ≠ j → g i = 0) : SuN m g = if j < m then g j else 0 := by
 induction m with
 | zero => rfl
 | succ m ih =>
   show SuN m g + g m = _
   rw [ih fun i hi hn => h i (by lia) hn]
   by_cases c : j < m
   ·rw [if_pos c, if_pos (by lia), h m (by lia) (by lia)]; lia
   ·rw [if_neg c]
    by_cases d : j = m
    ·rw [if_pos (by lia), d]; lia
    ·rw [if_neg (by lia), h m (by lia) (fun z => d z.symm)]; rfl
theorem a9q (c : Int) : ∀ a : Po, cv a (co []) c = 0
 | [] => rfl
 | x :: a => by
   show x.2 * 0 + cv a (co []) c = 0
   rw [a9q c a]; lia
theorem b4M (c : Int) : ∀ a : Po, cv a (co [(0, 1)]) c = co a c
 | [] => rfl
 | x :: a => by
   show x.2 * ((if (0 : Int) = c - x.1 then 1 else 0) + 0) + cv a (co [(0, 1)]) c = (if x.1 = c then x.2 else 0) + co a c
   rw [b4M c a]
   by_cases h : x.1 = c
   ·rw [if_pos h, if_pos (by lia)]; lia
   ·rw [if_neg h, if_neg (by lia)]; lia
theorem b1w {n : Int} {i j : Nat} (hi : i < n.toNat) : rowF ((idP n).getD i []) j = co (if j < n.toNat then oneP i j else []) := by
 have e : (idP n).getD i [] = (a0g n).map fun c => oneP i c := by
  unfold idP
  rw [List.getD_eq_getElem?_getD, List.getElem?_map, List.getElem?_eq_getElem (by rw [a0e]; exact hi)]
  have : (a0g n)[i]'(by rw [a0e]; exact hi) = (i : Int) := by rw [← b6T]; exact a9j (by lia) (by lia)
  rw [this]; rfl
 funext c
 unfold rowF
 rw [e, List.getD_eq_getElem?_getD, List.getElem?_map]
 by_cases h : j < n.toNat
 ·rw [if_pos h, List.getElem?_eq_getElem (by rw [a0e]; exact h)]
  have : (a0g n)[j]'(by rw [a0e]; exact h) = (j : Int) := by rw [← b6T]; exact a9j (by lia) (by lia)
  rw [this]; rfl
 ·rw [if_neg h, List.getElem?_eq_none (by rw [a0e]; lia)]; rfl
theorem b8B {n : Int} {r : List Po} (hr : r.length = n.toNat) : mrow r (fun i => rowF ((idP n).getD i [])) n.toNat = rowF r := by
 funext j c
 unfold mrow
 rw [b5b (j := j) (fun i hi hne => by
  dsimp only
  rw [b1w hi]
  split
  ·have e : oneP (i : Int) (j : Int) = [] := by unfold oneP; rw [if_neg (by lia)]
   rw [e, a9q]
  ·rw [a9q])]
 by_cases h : j < n.toNat
 ·rw [if_pos h]
  dsimp only
  rw [b1w h, if_pos h]
  have e : oneP (j : Int) (j : Int) = [(0, 1)] := by unfold oneP; rw [if_pos rfl]
  rw [e, b4M]; rfl
 ·rw [if_neg h]
  unfold rowF
  rw [List.getD_eq_getElem?_getD, List.getElem?_eq_none (by lia)]; rfl
theorem b2V {n : Int} {r : List Po} {vs : List Int} (hr : r.length = n.toNat) (hv : WordOK n vs) : wdR (rowF r) vs = mrow r (fun i => rowF ((tabP n vs).getD i [])) n.toNat := by
 rw [← b8B hr, ← b3N]
 funext j c
 unfold mrow
 refine a3z fun i hi => ?_
 have e : (tabP n vs).getD i [] = wdP ((idP n).getD i []) vs := by
  rw [a2i, List.getD_eq_getElem?_getD, List.getElem?_map, List.getD_eq_getElem?_getD, List.getElem?_eq_getElem (by rw [(a2N n).1]; exact hi)]; rfl
 have hl : ((idP n).getD i []).length = n.toNat := ((a2N n).2 _ (by rw [List.getD_eq_getElem?_getD, List.getElem?_eq_getElem (by rw [(a2N n).1]; exact hi)]; exact List.getElem_mem _)).1
 dsimp only
 rw [e, a4K vs _ hl (a1Q hv)]
theorem b2T {M : MH} {p : Addr} {kvs : List (Key × T)} : Wk (updM M p (.dk kvs)) (updM M p (.fk kvs)) := by
 have h := c1t (M := updM M p (.dk kvs)) (p := p) (kvs := kvs) a0c
 have e : updM (updM M p (.dk kvs)) p (.fk kvs) = updM M p (.fk kvs) := by
  funext b; unfold updM; split <;> rfl
 rwa [e] at h
noncomputable def sumP (g : Nat → Po) : Nat → Po
 | 0 => []
 | m + 1 => b2m (sumP g m) (g m) 1
theorem a7Z (g : Nat → Po) (c : Int) : ∀ m, co (sumP g m) c = SuN m fun i => co (g i) c
 | 0 => rfl
 | m + 1 => by
   show co (b2m (sumP g m) (g m) 1) c = SuN m (fun i => co (g i) c) + co (g m) c
   rw [b1N, a7Z g c m]; lia
theorem a8c (g : Nat → Po) : ∀ m, CanP (sumP g m)
 | 0 => ⟨.nil, fun _ h => absurd h List.not_mem_nil⟩
 | m + 1 => a0z _
noncomputable def matE (r : List Po) (T : List (List Po)) (m j : Nat) : Po := sumP (fun k => a0K (r.getD k []) ((T.getD k []).getD j [])) m
noncomputable def matP (m : Nat) (A T : List (List Po)) : List (List Po) := A.map fun r => (List.range m).map fun j => matE r T m j
theorem b7v {n : Int} {ws vs : List Int} (hw : WordOK n ws) (hv : WordOK n vs) : tabP n (ws ++ vs) = matP n.toNat (tabP n ws) (tabP n vs) := by
 have hwv := hw.append hv
 have g := a0P hwv
 have gw := a0P hw
 rw [a2i] at g gw
 unfold matP
 rw [a2i n (ws ++ vs), a2i n ws, List.map_map]
 refine List.map_congr_left fun ps hps => ?_
 show wdP ps (ws ++ vs) = (List.range n.toNat).map fun j => matE (wdP ps ws) (tabP n vs) n.toNat j
 have hl : ps.length = n.toNat := ((a2N n).2 ps hps).1
 have hl2 := a5B ws ps hl (a1Q hw)
 have e1 : wdP ps (ws ++ vs) = wdP (wdP ps ws) vs := by unfold wdP; rw [List.foldl_append]
 refine b0Y (by rw [a5B (ws ++ vs) ps hl (a1Q hwv), List.length_map, List.length_range]) (fun x hx => ((g.2 _ (List.mem_map.mpr ⟨ps, hps, rfl⟩)).2 x hx).1) (fun x hx => ?_) ?_
 ·obtain ⟨j, _, rfl⟩ := List.mem_map.mp hx
  exact a8c _ _
 ·rw [e1, a4K vs _ hl2 (a1Q hv), b2V hl2 hv]
  funext j c
  unfold rowF mrow
  rw [List.getD_eq_getElem?_getD, List.getElem?_map]
  by_cases h : j < n.toNat
  ·rw [List.getElem?_range h]
   show _ = co (matE (wdP ps ws) (tabP n vs) n.toNat j) c
   unfold matE
   rw [a7Z]
   refine a3z fun i hi => ?_
   unfold a0K
   rw [a0F, a5Z]
  ·rw [List.getElem?_eq_none (by rw [List.length_range]; lia)]
   show _ = (0 : Int)
   have e : (fun i => cv ((wdP ps ws).getD i []) (fun c => co (((tabP n vs).getD i []).getD j []) c) c) = fun i => (0 : Int) := by
    funext i
    have gv := a0P hv
    have e2 : ((tabP n vs).getD i []).getD j [] = [] := by
     by_cases hi : i < (tabP n vs).length
     ·have := (gv.2 ((tabP n vs).getD i []) (by rw [List.getD_eq_getElem?_getD, List.getElem?_eq_getElem hi]; exact List.getElem_mem _)).1
      rw [List.getD_eq_getElem?_getD, List.getElem?_eq_none (by lia)]; rfl
     ·rw [List.getD_eq_getElem?_getD (l := tabP n vs), List.getElem?_eq_none (by lia)]; rfl
    rw [e2]
    exact a9q c _
   rw [e]
   have z : ∀ m, SuN m (fun _ => (0 : Int)) = 0 := fun m => by
    induction m with
    | zero => rfl
    | succ m ih => show SuN m (fun _ => (0 : Int)) + 0 = 0; rw [ih]; rfl
   exact z _
theorem b4V (k : Int) : CanP [(k, 1)] := ⟨List.pairwise_singleton _ _, fun x hx => by rw [List.mem_singleton.mp hx]; show (1 : Int) ≠ 0; decide⟩
theorem b7J {n : Int} {ws : List Int} (hw : WordOK n ws) {r : List Po} (hr : r ∈ tabP n ws) : sumP (fun j => r.getD j []) n.toNat = [(0, 1)] := by
 rw [a2i] at hr
 obtain ⟨ps, hps, rfl⟩ := List.mem_map.mp hr
 have hl : ps.length = n.toNat := ((a2N n).2 ps hps).1
 refine a1x (a8c _ _) (b4V 0) fun c => ?_
 rw [a7Z]
 have e : (fun j => co ((wdP ps ws).getD j []) c) = fun j => wdR (rowF ps) ws j c := by
  funext j
  have := congrFun (congrFun (a4K ws ps hl (a1Q hw)) j) c
  exact this
 rw [e, b6E ws _ c (a1Q hw)]
 obtain ⟨i, hi, ei⟩ := List.getElem_of_mem hps
 have hin : i < n.toNat := by rw [(a2N n).1] at hi; exact hi
 have e2 : ps = (idP n).getD i [] := by rw [List.getD_eq_getElem?_getD, List.getElem?_eq_getElem hi]; exact ei.symm
 rw [e2, b5b (j := i) (fun j hj hne => by
  rw [b1w hin, if_pos hj]
  unfold oneP
  rw [if_neg (by lia)]; rfl), if_pos hin, b1w hin, if_pos hin]
 unfold oneP
 rw [if_pos rfl]
noncomputable def a3g (n : Nat) : List Po := (List.range n).map fun (j : Nat) => [((j : Int), 1)]
theorem a4e {n j : Nat} (h : j < n) : (a3g n).getD j [] = [((j : Int), 1)] := by
 unfold a3g
 rw [List.getD_eq_getElem?_getD, List.getElem?_map, List.getElem?_range h]; rfl
theorem b5p {n k : Nat} (h : k + 1 < n) (u : Bool) : wlR (rowF (a3g n)) k u = rowF (a3g n) := by
 funext j c
 have n1 : ¬ k + 1 = k := by lia
 have g0 : ∀ c, rowF (a3g n) k c = if (k : Int) = c then 1 else 0 := fun c => by
  unfold rowF; rw [a4e (by lia)]
  show (if (k : Int) = c then 1 else 0) + 0 = _
  rw [Int.add_zero]
 have g1 : ∀ c, rowF (a3g n) (k + 1) c = if ((k + 1 : Nat) : Int) = c then 1 else 0 := fun c => by
  unfold rowF; rw [a4e h]
  show (if ((k + 1 : Nat) : Int) = c then 1 else 0) + 0 = _
  rw [Int.add_zero]
 unfold wlR
 by_cases a : j = k
 ·subst a
  simp only [if_true, g0, g1]
  cases u
  ·rw [if_neg (by decide)]
   by_cases z : (j : Int) = c
   ·rw [if_pos z, if_pos (by lia)]
   ·rw [if_neg z, if_neg (by lia)]
  ·rw [if_pos rfl]
   by_cases z : (j : Int) = c
   ·rw [if_pos z, if_neg (by lia), if_neg (by lia)]; lia
   ·rw [if_neg z]
    by_cases y : (j : Int) = c - 1
    ·rw [if_pos y, if_pos (by lia)]; lia
    ·rw [if_neg y, if_neg (by lia)]; lia
 ·rw [if_neg a]
  by_cases b : j = k + 1
  ·subst b
   simp only [if_true, g0, g1]
   cases u
   ·rw [if_neg (by decide)]
    by_cases z : (k : Int) = c
    ·rw [if_pos z, if_neg (by lia), if_pos (by lia)]; lia
    ·rw [if_neg z]
     by_cases y : ((k + 1 : Nat) : Int) = c
     ·rw [if_pos y, if_neg (by lia)]; lia
     ·rw [if_neg y, if_neg (by lia)]; lia
   ·rw [if_pos rfl]
    by_cases y : ((k + 1 : Nat) : Int) = c
    ·rw [if_pos y, if_pos (by lia)]
    ·rw [if_neg y, if_neg (by lia)]
  ·rw [if_neg b]
theorem b0U {n : Nat} : ∀ (ws : List Int), (∀ l ∈ ws, 1 ≤ l.natAbs ∧ l.natAbs < n) → wdR (rowF (a3g n)) ws = rowF (a3g n)
 | [], _ => rfl
 | l :: w, hw => by
   obtain ⟨a, b⟩ := hw l (.head _)
   show wdR (wlR (rowF (a3g n)) (l.natAbs - 1) (decide (0 < l))) w = _
   rw [b5p (by lia)]
   exact b0U w fun x hx => hw x (.tail _ hx)
theorem b8V {n : Int} {ws : List Int} (hw : WordOK n ws) {k : Nat} (hk : k < n.toNat) : sumP (fun j => a0K [(((j : Nat) : Int), 1)] (((tabP n ws).getD j []).getD k [])) n.toNat = [((k : Int), 1)] := by
 refine a1x (a8c _ _) (b4V k) fun c => ?_
 have hl : (a3g n.toNat).length = n.toNat := by unfold a3g; rw [List.length_map, List.length_range]
 have e := congrFun (congrFun ((b2V hl hw).symm.trans (b0U ws (a1Q hw))) k) c
 rw [a7Z]
 unfold mrow at e
 have e3 : rowF (a3g n.toNat) k c = co [((k : Int), 1)] c := by unfold rowF; rw [a4e hk]
 rw [← e3, ← e]
 refine a3z fun i hi => ?_
 rw [a4e hi]
 unfold a0K
 rw [a0F, a5Z]; rfl
theorem a9r (f : Int → Int) (c : Int) : ∀ p q : Po, cv (p ++ q) f c = cv p f c + cv q f c
 | [], q => by show cv q f c = 0 + cv q f c; lia
 | x :: p, q => by
   show x.2 * f (c - x.1) + cv (p ++ q) f c = x.2 * f (c - x.1) + cv p f c + cv q f c
   rw [a9r f c p q]; lia
theorem b7c (f g : Int → Int) (c : Int) : ∀ p : Po, cv p (fun c => f c + g c) c = cv p f c + cv p g c
 | [] => rfl
 | x :: p => by
   show x.2 * (f (c - x.1) + g (c - x.1)) + cv p (fun c => f c + g c) c = (x.2 * f (c - x.1) + cv p f c) + (x.2 * g (c - x.1) + cv p g c)
   rw [b7c f g c p, Int.mul_add]; lia
theorem b1H (x : Int × Int) (f : Int → Int) (c : Int) : ∀ q : Po, cv (q.map fun y => (x.1 + y.1, x.2 * y.2)) f c = x.2 * cv q f (c - x.1)
 | [] => by show (0 : Int) = x.2 * 0; rw [Int.mul_zero]
 | y :: q => by
   show x.2 * y.2 * f (c - (x.1 + y.1)) + cv (q.map fun y => (x.1 + y.1, x.2 * y.2)) f c = x.2 * (y.2 * f (c - x.1 - y.1) + cv q f (c - x.1))
   rw [b1H x f c q, Int.mul_add, Int.mul_assoc, show c - (x.1 + y.1) = c - x.1 - y.1 by lia]
theorem b7a (q : Po) (f : Int → Int) (c : Int) : ∀ p : Po, cv (rawM p q) f c = cv p (cv q f) c
 | [] => rfl
 | x :: p => by
   show cv ((q.map fun y => (x.1 + y.1, x.2 * y.2)) ++ rawM p q) f c = x.2 * cv q f (c - x.1) + cv p (cv q f) c
   rw [a9r, b1H, b7a q f c p]
theorem b4L (k v : Int) (f : Int → Int) (c : Int) : ∀ p : Po, cv (putP k v p) f c = v * f (c - k) + cv p f c
 | [] => by
   show cv (if v = 0 then [] else [(k, v)]) f c = v * f (c - k) + 0
   split
   ·rename_i h; subst h; show (0 : Int) = _; rw [Int.zero_mul]; rfl
   ·rfl
 | x :: r => by
   have ih := b4L k v f c r
   show cv (if k < x.1 then (if v = 0 then x :: r else (k, v) :: x :: r) else if k = x.1 then (if x.2 + v = 0 then r else (k, x.2 + v) :: r) else x :: putP k v r) f c = _
   split
   ·split
    ·rename_i h; subst h; rw [Int.zero_mul, Int.zero_add]
    ·rfl
   ·split
    ·rename_i h; subst h
     split
     ·rename_i h
      show cv r f c = v * f (c - x.1) + (x.2 * f (c - x.1) + cv r f c)
      rw [← Int.add_assoc, ← Int.add_mul, show v + x.2 = 0 by lia, Int.zero_mul, Int.zero_add]
     ·show (x.2 + v) * f (c - x.1) + cv r f c = v * f (c - x.1) + (x.2 * f (c - x.1) + cv r f c)
      rw [Int.add_mul]; lia
    ·show x.2 * f (c - x.1) + cv (putP k v r) f c = v * f (c - k) + (x.2 * f (c - x.1) + cv r f c)
     rw [ih]; lia
theorem b0z (f : Int → Int) (c : Int) : ∀ p : Po, cv (norm p) f c = cv p f c
 | [] => rfl
 | x :: p => by
   show cv (putP x.1 x.2 (norm p)) f c = x.2 * f (c - x.1) + cv p f c
   rw [b4L, b0z f c p]
theorem a5Y (x : Int × Int) (p : Po) (c : Int) : ∀ q : Po, co (rawM q (x :: p)) c = co (q.map fun y => (x.1 + y.1, x.2 * y.2)) c + co (rawM q p) c
 | [] => rfl
 | y :: q => by
   show co (((y.1 + x.1, y.2 * x.2) :: p.map fun b => (y.1 + b.1, y.2 * b.2)) ++ rawM q (x :: p)) c = ((if x.1 + y.1 = c then x.2 * y.2 else 0) + co (q.map fun y => (x.1 + y.1, x.2 * y.2)) c) + co ((p.map fun b => (y.1 + b.1, y.2 * b.2)) ++ rawM q p) c
   rw [a1o, a1o, a5Y x p c q]
   show ((if y.1 + x.1 = c then y.2 * x.2 else 0) + _) + _ = _
   rw [Int.add_comm y.1, Int.mul_comm y.2]; lia
theorem a3Z (c : Int) (q : Po) : ∀ p : Po, co (rawM p q) c = co (rawM q p) c
 | [] => by
   have : ∀ q : Po, rawM q [] = [] := fun q => by
    induction q with
    | nil => rfl
    | cons y q ih => show [] ++ rawM q [] = []; rw [ih]; rfl
   rw [this]; rfl
 | x :: p => by
   show co ((q.map fun y => (x.1 + y.1, x.2 * y.2)) ++ rawM p q) c = _
   rw [a1o, a5Y, a3Z c q p]
theorem b4P (p q : Po) (c : Int) : co (addP p q) c = co p c + co q c := by unfold addP; rw [a0F, a1o]
theorem b0E (p q : Po) (c : Int) : co (a0K p q) c = cv p (co q) c := by unfold a0K; rw [a0F, a5Z]
noncomputable abbrev Lp := {p : Po // CanP p}
noncomputable def toL (p : Po) : Lp := ⟨norm p, a0z p⟩
theorem b3b {p q : Po} (h : ∀ c, co p c = co q c) : toL p = toL q := Subtype.ext (a1x (a0z p) (a0z q) fun c => (a0F p c).trans ((h c).trans (a0F q c).symm))
theorem b7t {p q : Po} (hp : CanP p) (hq : CanP q) (h : toL p = toL q) : p = q := a1x hp hq fun c => by
 have e := congrArg Subtype.val h
 have e2 := congrArg (fun r => co r c) e
 show co p c = co q c
 have e3 : co (norm p) c = co (norm q) c := e2
 rwa [a0F, a0F] at e3
noncomputable instance : Add Lp := ⟨fun p q => toL (addP p.1 q.1)⟩
noncomputable instance : Mul Lp := ⟨fun p q => toL (a0K p.1 q.1)⟩
noncomputable def zL : Lp := toL []
noncomputable def eL : Lp := toL [(0, 1)]
theorem Lp.ext2 {p q : Lp} (h : ∀ c, co p.1 c = co q.1 c) : p = q := Subtype.ext (a1x p.2 q.2 h)
theorem co_L (p : Po) (c : Int) : co (toL p).1 c = co p c := a0F p c
theorem a1z (p q : Lp) (c : Int) : co (p + q).1 c = co p.1 c + co q.1 c := (co_L _ c).trans (b4P _ _ c)
theorem a1n (p q : Lp) (c : Int) : co (p * q).1 c = cv p.1 (co q.1) c := (co_L _ c).trans (b0E _ _ c)
theorem cv_L (p : Po) (f : Int → Int) (c : Int) : cv (toL p).1 f c = cv p f c := b0z f c p
theorem a4A (p q : Po) : toL (addP p q) = toL p + toL q := Lp.ext2 fun c => by rw [a1z, co_L, b4P, co_L, co_L]
theorem a1Z (p q : Po) : toL (a0K p q) = toL p * toL q := Lp.ext2 fun c => by
 rw [a1n, co_L, b0E, cv_L]
 have e : co (toL q).1 = co q := funext fun c => co_L q c
 rw [e]
theorem a9F (p q : Lp) : p + q = q + p := Lp.ext2 fun c => by rw [a1z, a1z]; lia
theorem a6Z (p q r : Lp) : p + q + r = p + (q + r) := Lp.ext2 fun c => by rw [a1z, a1z, a1z, a1z]; lia
theorem b7f (p : Lp) : p + zL = p := Lp.ext2 fun c => by
 rw [a1z]; show co p.1 c + co (norm []) c = co p.1 c
 rw [a0F]; show _ + 0 = _; lia
theorem a1k (p q : Lp) : p * q = q * p := Lp.ext2 fun c => by rw [a1n, a1n, ← a5Z, ← a5Z, a3Z]
theorem a4O (p q r : Lp) : p * q * r = p * (q * r) := Lp.ext2 fun c => by
 rw [a1n, a1n]
 have e : co (q * r).1 = cv q.1 (co r.1) := funext fun c => a1n q r c
 rw [e, ← b7a]
 show cv (toL (a0K p.1 q.1)).1 (co r.1) c = _
 rw [cv_L]; unfold a0K; rw [b0z]
theorem b1m (p : Lp) : p * eL = p := Lp.ext2 fun c => by
 rw [a1n]
 have e : co eL.1 = co [(0, 1)] := funext fun c => co_L _ c
 rw [e, b4M]
theorem a8R (p : Lp) : p * zL = zL := Lp.ext2 fun c => by
 rw [a1n]
 have e : co zL.1 = co [] := funext fun c => co_L _ c
 rw [e, a9q]; rfl
theorem b8R (p q r : Lp) : p * (q + r) = p * q + p * r := Lp.ext2 fun c => by
 rw [a1n, a1z, a1n, a1n, ← b7c]
 have e : co (q + r).1 = fun c => co q.1 c + co r.1 c := funext fun c => a1z q r c
 rw [e]
instance : Std.Associative (α := Lp) (· * ·) := ⟨a4O⟩
instance : Std.Commutative (α := Lp) (· * ·) := ⟨a1k⟩
instance : Std.Associative (α := Lp) (· + ·) := ⟨a6Z⟩
instance : Std.Commutative (α := Lp) (· + ·) := ⟨a9F⟩
noncomputable def Su : Nat → (Nat → Lp) → Lp
 | 0, _ => zL
 | m + 1, g => Su m g + g m
theorem b1U {m : Nat} {f g : Nat → Lp} (h : ∀ i, i < m → f i = g i) : Su m f = Su m g := by
 induction m with
 | zero => rfl
 | succ m ih => show Su m f + f m = Su m g + g m; rw [ih fun i hi => h i (by lia), h m (by lia)]
noncomputable def sk (r i : Nat) : Nat := if i < r then i else i + 1
noncomputable def Drow (sg : Nat → Lp) : Nat → (Nat → Nat → Lp) → Lp
 | 0, _ => eL
 | m + 1, A => Su (m + 1) fun c => sg c * A 0 c * Drow sg m fun i j => A (i + 1) (sk c j)
theorem a7a (sg : Nat → Lp) : ∀ (m : Nat) {A B : Nat → Nat → Lp}, (∀ i j, i < m → j < m → A i j = B i j) → Drow sg m A = Drow sg m B
 | 0, _, _, _ => rfl
 | m + 1, A, B, h => b1U fun c hc => by
   rw [h 0 c (by lia) hc, a7a sg m (A := fun i j => A (i + 1) (sk c j)) (B := fun i j => B (i + 1) (sk c j)) fun i j hi hj => h _ _ (by lia) (by unfold sk; split <;> lia)]
noncomputable def a1X (c : Nat) (rs : List (List Po)) : List (List Po) := rs.map fun ps => ps.take c ++ ps.drop (c + 1)
noncomputable def sgnP : Nat → Po
 | 0 => [(0, 1)]
 | c + 1 => a0K (sgnP c) [(0, -1)]
noncomputable def a4C (ps : List Po) (f : Nat → Po) (acc : Po) (c : Nat) : Po := if ps.getD c [] = [] then acc else addP acc (a0K (a0K (ps.getD c []) (f c)) (sgnP c))
noncomputable def detP : Nat → List (List Po) → Po
 | 0, _ => []
 | _ + 1, [] => [(0, 1)]
 | k + 1, ps :: rs => (List.range ps.length).foldl (a4C ps fun c => detP k (a1X c rs)) []
theorem a7O : ∀ c, GdP 0 1 (sgnP c)
 | 0 => ⟨⟨by decide, by decide⟩, by unfold PwB; decide, by decide⟩
 | c + 1 => (a7O c).mul (q := [(0, -1)]) (b := 0) (C := 1) ⟨⟨by decide, by decide⟩, by unfold PwB; decide, by decide⟩
theorem a4U {α : Type} (f : α → Nat → α) (z : α) (c : Nat) : (List.range (c + 1)).foldl f z = f ((List.range c).foldl f z) c := by rw [List.range_succ, List.foldl_append]; rfl
noncomputable def a7S : Po → Po
 | [] => []
 | x :: p => a0K (x :: p) [(-x.1, if 0 < x.2 then 1 else -1)]
noncomputable def a1Y (n : Int) (ws : List Int) : List (List Po) := (List.range (n.toNat - 1)).map fun r => (List.range (n.toNat - 1)).map fun c => addP (oneP ((r + 1 : Nat) : Int) ((c + 1 : Nat) : Int)) (a0K (((tabP n ws).getD (r + 1) []).getD (c + 1) []) [(0, -1)])
noncomputable def a0s (n : Int) (ws : List Int) : Po := a7S (detP n.toNat (a1Y n ws))
theorem b2y {n : Int} {ws : List Int} (ok : PlOK n ws) : a9K (n.toNat - 1) ws.length (1 + 3 ^ ws.length) (a1Y n ws) := by
 obtain ⟨o1, o2, o3, o4⟩ := ok
 have hG := a0P (n := n) o4
 unfold a1Y
 refine ⟨by rw [List.length_map, List.length_range], fun ps hps => ?_⟩
 obtain ⟨i, hi, rfl⟩ := List.mem_map.mp hps
 refine ⟨by rw [List.length_map, List.length_range], fun q hq => ?_⟩
 obtain ⟨j, hj, rfl⟩ := List.mem_map.mp hq
 have h1 := List.mem_range.mp hi
 have h2 := List.mem_range.mp hj
 obtain ⟨g1, g2⟩ := hG.2 ((tabP n ws).getD (i + 1) []) (by rw [List.getD_eq_getElem?_getD, List.getElem?_eq_getElem (by rw [hG.1]; lia)]; exact List.getElem_mem _)
 have gj := a4p g2 (i := j + 1) (by rw [g1]; lia)
 exact ((a7P ((i + 1 : Nat) : Int) ((j + 1 : Nat) : Int)).mono (b := ws.length + 0) (by lia) (Nat.le_refl _)).add (gj.mul (q := [(0, -1)]) (b := 0) (C := 1) ⟨⟨by decide, by decide⟩, by unfold PwB; decide, by decide⟩) |>.mono (by lia) (by lia)
theorem b1a (k c : Int) : ∀ p : Po, (putP k c p).length ≤ p.length + 1
 | [] => by
   show (if c = 0 then [] else [(k, c)]).length ≤ 1
   split
   ·exact Nat.zero_le _
   ·exact Nat.le_refl _
 | x :: r => by
   have ih := b1a k c r
   show (if k < x.1 then (if c = 0 then x :: r else (k, c) :: x :: r) else if k = x.1 then (if x.2 + c = 0 then r else (k, x.2 + c) :: r) else x :: putP k c r).length ≤ r.length + 1 + 1
   split
   ·split
    ·rw [List.length_cons]; lia
    ·rw [List.length_cons, List.length_cons]; lia
   ·split
    ·split
     ·lia
     ·rw [List.length_cons]; lia
    ·rw [List.length_cons]; lia
theorem b1j : ∀ p : Po, (norm p).length ≤ p.length
 | [] => Nat.le_refl _
 | x :: r => Nat.le_trans (b1a x.1 x.2 (norm r)) (Nat.succ_le_succ (b1j r))
theorem b3p (c : Int × Int) : ∀ p : Po, (rawM p [c]).length = p.length
 | [] => rfl
 | x :: p => by
   show ([(x.1 + c.1, x.2 * c.2)] ++ rawM p [c]).length = p.length + 1
   rw [List.length_append, b3p c p]
   show 1 + p.length = p.length + 1
   lia
theorem b4p (p : Po) : (a7S p).length ≤ p.length := by
 cases p with
 | nil => exact Nat.le_refl _
 | cons x p =>
   refine Nat.le_trans (b1j _) ?_
   rw [b3p]; exact Nat.le_refl _
noncomputable def sgL (c : Nat) : Lp := toL (sgnP c)
noncomputable def eltL (rs : List (List Po)) (i j : Nat) : Lp := toL ((rs.getD i []).getD j [])
theorem b9X (ps : List Po) (f : Nat → Po) (acc : Po) (c : Nat) : toL (a4C ps f acc c) = toL acc + sgL c * toL (ps.getD c []) * toL (f c) := by
 unfold a4C
 split
 ·rename_i h
  rw [h]
  show toL acc = toL acc + sgL c * zL * toL (f c)
  rw [a8R, a1k, a8R, b7f]
 ·rw [a4A, a1Z, a1Z]
  show _ + toL (ps.getD c []) * toL (f c) * sgL c = _
  congr 1; ac_rfl
theorem b6V (ps : List Po) (f : Nat → Po) : ∀ c, toL ((List.range c).foldl (a4C ps f) []) = Su c fun c => sgL c * toL (ps.getD c []) * toL (f c)
 | 0 => rfl
 | c + 1 => by
   rw [a4U, b9X, b6V ps f c]; rfl
theorem b4k {ps : List Po} {c j : Nat} (hc : c < ps.length) : (ps.take c ++ ps.drop (c + 1)).getD j [] = ps.getD (sk c j) [] := by
 have hl : (ps.take c).length = c := by rw [List.length_take]; lia
 rw [List.getD_eq_getElem?_getD, List.getD_eq_getElem?_getD]
 unfold sk
 by_cases h : j < c
 ·rw [if_pos h, List.getElem?_append_left (by rw [hl]; exact h), List.getElem?_take_of_lt h]
 ·rw [if_neg h, List.getElem?_append_right (by rw [hl]; lia), hl, List.getElem?_drop, show c + 1 + (j - c) = j + 1 by lia]
theorem b4G : ∀ (m : Nat) (rs : List (List Po)), rs.length = m → (∀ ps ∈ rs, ps.length = m) → toL (detP (m + 1) rs) = Drow sgL m (eltL rs)
 | 0, [], _, _ => rfl
 | 0, _ :: _, h, _ => by simp at h
 | m + 1, [], h, _ => by simp at h
 | m + 1, ps :: rs, h, h2 => by
   have hl : rs.length = m := by rw [List.length_cons] at h; lia
   have g1 := h2 ps (.head _)
   show toL ((List.range ps.length).foldl (a4C ps fun c => detP (m + 1) (a1X c rs)) []) = _
   rw [b6V, g1]
   refine b1U fun c hc => ?_
   have hd : (a1X c rs).length = m := by unfold a1X; rw [List.length_map]; exact hl
   have hd2 : ∀ qs ∈ a1X c rs, qs.length = m := fun qs hq => by
    unfold a1X at hq
    obtain ⟨q, hq2, rfl⟩ := List.mem_map.mp hq
    have := h2 q (List.mem_cons_of_mem _ hq2)
    rw [List.length_append, List.length_take, List.length_drop]; lia
   rw [b4G m (a1X c rs) hd hd2]
   rw [a7a sgL m (A := eltL (a1X c rs)) (B := fun i j => eltL (ps :: rs) (i + 1) (sk c j)) fun i j hi hj => by
    unfold eltL
    show toL (((a1X c rs).getD i []).getD j []) = toL ((rs.getD i []).getD (sk c j) [])
    have hi2 : i < rs.length := by lia
    have e1 : (a1X c rs).getD i [] = (rs.getD i []).take c ++ (rs.getD i []).drop (c + 1) := by
     unfold a1X
     rw [List.getD_eq_getElem?_getD, List.getElem?_map, List.getD_eq_getElem?_getD, List.getElem?_eq_getElem hi2]; rfl
    have hlen : (rs.getD i []).length = m + 1 := by
     rw [List.getD_eq_getElem?_getD, List.getElem?_eq_getElem hi2]
     exact h2 _ (.tail _ (List.getElem_mem _))
    rw [e1, b4k (by rw [hlen]; exact hc)]]
   rfl
noncomputable def b9A (j : Nat) : Int := if j % 2 = 0 then 1 else -1
noncomputable def sgU (s : Int) : Lp := toL [(0, s)]
theorem a9t (s c : Int) : co [(0, s)] c = if 0 = c then s else 0 := by
 show (if (0 : Int) = c then s else 0) + 0 = _
 rw [Int.add_zero]
theorem a9V (a b : Int) : sgU a * sgU b = sgU (a * b) := by
 unfold sgU
 rw [← a1Z]
 refine b3b fun c => ?_
 rw [b0E, a9t]
 show a * co [(0, b)] (c - 0) + 0 = _
 rw [Int.sub_zero, a9t]
 by_cases h : (0 : Int) = c
 ·rw [if_pos h, if_pos h, Int.add_zero]
 ·rw [if_neg h, if_neg h, Int.mul_zero, Int.add_zero]
theorem a4f : ∀ c, sgL c = sgU (b9A c)
 | 0 => rfl
 | c + 1 => by
   show toL (a0K (sgnP c) [(0, -1)]) = _
   rw [a1Z]
   show sgL c * sgU (-1) = _
   rw [a4f c, a9V]
   congr 1
   unfold b9A
   by_cases h : c % 2 = 0
   ·rw [if_pos h, if_neg (by lia)]; rfl
   ·rw [if_neg h, if_pos (by lia)]; rfl
theorem b3a (p q : Po) : toL (b2m p q 1) = toL p + toL q := Lp.ext2 fun c => by rw [a1z, co_L, b1N, co_L, co_L, Int.one_mul]
theorem a5p (g : Nat → Po) : ∀ m, toL (sumP g m) = Su m fun i => toL (g i)
 | 0 => rfl
 | m + 1 => by show toL (b2m (sumP g m) (g m) 1) = Su m (fun i => toL (g i)) + toL (g m); rw [b3a, a5p g m]
noncomputable def wtI (x : Int × Int) : Int := if x.1 % 2 = 0 then x.2 else -x.2
noncomputable def a4y (p : Po) : Int := ((p.map wtI).sum.natAbs : Nat)
section
variable {P : Program} {w : World} {A : Around} {E : Value → Shared → Prop} {s : Shared}
theorem a7K {kvs : List (Key × Value)} {ns : List Int} (hk : kvs.map (·.1) = ns.map Sum.inl) {i : Nat} {v : Value} (h : ∃ k x, kvs[i]? = some (k, x) ∧ (a0m P w).is k v = true) : ∃ t, v = .int (ns.getD i 0) t := by
 obtain ⟨k, x, e1, e2⟩ := h
 have e3 : (kvs.map (·.1))[i]? = some k := by rw [List.getElem?_map, e1]; rfl
 rw [hk, List.getElem?_map] at e3
 rw [List.getD_eq_getElem?_getD]
 cases en : ns[i]? with
 | none => rw [en] at e3; cases e3
 | some n =>
   rw [en] at e3
   have e4 : Sum.inl n = k := Option.some.inj e3
   subst e4
   rw [a4P] at e2
   rcases a0D e2 with ⟨j, t, z1, z2⟩ | ⟨j, t, z1, z2⟩
   ·cases z1; exact ⟨t, z2⟩
   ·cases z1
theorem b5R {d : Addr} {kvs : List (Key × Value)} {ep : Nat} {ns : List Int} {Q : Value → Shared → Prop} (hA : A.handled = none) (hd : s.heap.DictAt (a0m P w) d kvs ep) (lo : (d == sysModules) = false) (hk : kvs.map (·.1) = ns.map Sum.inl) (hne : 0 < ns.length)
  (h : ∀ h' m (t : Tok) tk, (∀ b o, s.heap.get? b = some o → h'.get? b = some o) → m ∈ ns → (∀ a ∈ ns, m ≤ a) → Q (.int m t) { s with heap := h', toks := tk }) :
  wpAny (model P w) A (call (.builtin "min") [.ref d]) Q E s := by
 have hl : kvs.length = ns.length := by
  have := congrArg List.length hk
  rwa [List.length_map, List.length_map] at this
 have hlt : d < s.heap.objs.size := by obtain ⟨_, _, e, _⟩ := hd; exact Heap.lt_size e
 refine call_min_walk (wpAny_pyIter_dict lo hd ?_)
 refine ⟨_, _, _, _, _, _, _, rfl, Walks.dictKeys (knd := a0m P w) (A := A.in1) hA s.heap.objs.size d (Nat.ne_of_lt hlt) kvs ep, ⟨⟨_, Heap.get?_push_size _ rfl, rfl, rfl⟩, hd.at' fun o e => Heap.get?_push_of_some _ e⟩, fun b hb => ?_, by lia, CmpOf.ints_lt (fun i => ns.getD i 0) (fun i v hv => a7K hk hv), fun v h' tk hP hkp => ?_⟩
 ·show b < (s.heap.push _).objs.size
  rw [Heap.size_push]
  rcases List.mem_cons.mp hb with rfl | hb
  ·exact Nat.lt_succ_self _
  ·rcases List.mem_cons.mp hb with rfl | hb
   ·exact Nat.lt_succ_of_lt hlt
   ·cases hb
 ·obtain ⟨t, rfl⟩ := a7K hk hP
  obtain ⟨h1, h2⟩ := argBest_lt (fun i => ns.getD i 0) (kvs.length - 1)
  refine h _ _ t tk (fun b o eb => hkp b o (fun hm => ?_) (Heap.get?_push_of_some _ eb)) ?_ fun a ha => ?_
  ·rcases List.mem_cons.mp hm with e1 | hm
   ·exact absurd (e1 ▸ Heap.lt_size eb) (Nat.lt_irrefl _)
   ·cases hm
  ·exact a9g (by lia)
  ·obtain ⟨j, hj, rfl⟩ := mem_getD ha
   exact h2 j (by lia)
end
section
variable {X : Cx}
noncomputable def b3q : List T → MH → VK3 → Prop := fun xs M Q => match xs with
 | [.adr p] => (match M p with | some (.fk kvs) => ∃ ns : List Int, kvs.map Prod.fst = ns.map Sum.inl ∧ 0 < ns.length ∧ ∀ m : Int, m ∈ ns → (∀ a ∈ ns, m ≤ a) → Q (.int m) M | _ => False)
 | _ => False
theorem b2N (hc : X.calm = true) : a3k X (.builtin "min") b3q := by
 intro pins s σ H vs us Q2 I r h
 obtain ⟨xs, M, Q, rr, hh, q, en⟩ := h
 unfold b3q at q
 split at q
 ·obtain ⟨v, rfl, r1⟩ := a2r rr
  obtain rfl := a0o r1
  obtain ⟨u, rfl, rx⟩ := a3n r
  cases rx
  split at q
  ·rename_i kvs e0
   obtain ⟨ns, hk, hne, q⟩ := q
   obtain ⟨kv, g1, g2⟩ := hh _ _ e0
   obtain ⟨kz, lo, vs, r1, dd⟩ := b0x I g1
   obtain ⟨ep, da⟩ := dd.dictAt
   have e1 : vs.map (·.1) = ns.map Sum.inl := by
    rw [← r1.keys]
    exact (a3t g2).trans hk
   exact b5R (I.ok.hd hc) da lo e1 hne fun h' m t tk k m1 m2 => ⟨.int m, H, I.kept k, ⟨_, rfl⟩, en _ _ M H Kp.refl hh a0i (q m m1 m2)⟩
  ·exact q.elim
 ·exact q.elim
noncomputable def b7V : R3 := fun x y M Q => match x, y with
 | .adr a, .adr b => ∃ p : Po, M a = some (.fk (dkI p)) ∧ M b = some (.fk (dkI [])) ∧ Q (.bl p.isEmpty) M
 | _, _ => False
theorem b5O (hu : X.A.units + 64 < cLine) : OpR3 X (compareOp .Eq) b7V := by
 intro pins s σ H x y v u Q2 I rx ry q
 obtain ⟨a, b, M, Q, r1, r2, hh, q, en⟩ := q
 unfold b7V at q
 split at q
 ·obtain ⟨p, e1, e2, q⟩ := q
  obtain ⟨xs, h1, h2⟩ := hh _ _ e1
  obtain ⟨ys, g1, g2⟩ := hh _ _ e2
  obtain rfl := a0o r1
  obtain rfl := a0o r2
  cases rx
  cases ry
  obtain ⟨_, la, vs, kv, dv⟩ := b0x I h1
  obtain ⟨_, lb, us, ku, du⟩ := b0x I g1
  rw [a4m h2] at kv
  rw [a4m g2] at ku
  have hl := kv.length
  have hl2 := ku.length
  rw [List.length_map] at hl hl2
  refine PySem.W.keq_eq (r := true) (knd := a0m X.prog X.w) la lb (a3I dv (a5d kv).1) (a3I du (a5d ku).1) (by lia) (fun z => ?_) ?_
  ·have : vs = [] := List.eq_nil_of_length_eq_zero (by rw [z, ← hl2]; rfl)
   subst this
   exact .nil
  ·have e : (vs.length == us.length && true) = p.isEmpty := by
    rw [← hl, ← hl2]
    cases p <;> rfl
   rw [e]
   exact ⟨.bl _, H, I, rfl, en _ _ M H Kp.refl hh a2Q q⟩
 ·exact q.elim
end
noncomputable def twT : List (Int × Int × List Stp) := [(2, 1, []), (2, -1, [.inn 0 (-1), .out 2]), (3, 1, [.three 0]), (3, -1, [.inn 0 (-2), .three 1, .out 4]), (3, 2, [.three 1]), (3, -2, [.inn 0 (-1), .three 2, .out 4]), (4, 1, [.three 3, .three 1, .far 0]), (4, -1, [.inn 0 (-3), .far 1, .three 2, .three 4, .out 7]), (4, 2, [.far 2, .three 0, .three 4]), (4, -2, [.inn 0 (-2), .three 5, .three 1, .far 3, .out 7]), (4, 3, [.far 2, .far 5, .three 3, .three 1, .far 3]), (4, -3, [.inn 0 (-1), .far 4, .three 2, .three 4, .far 6, .far 3, .out 7]), (5, 1, [.three 7, .three 5, .far 4, .three 2, .far 1, .far 0]), (5, -1, [.inn 0 (-4), .far 1, .far 2, .three 3, .far 5, .three 6, .three 8, .out 11]), (5, 2, [.far 6, .three 4, .three 8, .far 3, .three 1, .far 0]), (5, -2, [.inn 0 (-3), .far 1, .three 2, .far 4, .three 9, .three 5, .far 7, .out 11]), (5, 3, [.far 6, .far 9, .three 7, .three 5, .far 3, .far 2, .three 0, .far 7]), (5, -3, [.inn 0 (-2), .far 8, .three 1, .far 3, .far 4, .three 6, .three 8, .far 10, .far 7, .out 11]), (5, 4, [.far 3, .far 2, .far 4, .far 9, .far 8, .far 7, .three 5, .three 3, .three 1, .far 5, .far 3, .far 4]), (5, -4, [.inn 0 (-1), .far 5, .far 4, .far 6, .three 2, .three 4, .three 6, .far 8, .far 9, .far 10, .far 5, .far 3, .far 4, .out 11]), (6, 1, [.three 12, .three 10, .far 9, .three 7, .far 6, .far 5, .three 3, .far 2, .far 1, .far 0]), (6, -1, [.inn 0 (-5), .far 1, .far 2, .far 3, .three 4, .far 6, .far 7, .three 8, .far 10, .three 11, .three 13, .out 16]), (6, 2, [.far 11, .three 9, .far 8, .three 6, .three 13, .far 5, .far 4, .three 2, .far 1, .far 0]), (6, -2, [.inn 0 (-4), .far 1, .far 2, .three 3, .far 5, .far 6, .three 14, .three 7, .far 9, .three 10, .far 12, .out 16]), (6, 3, [.far 8, .far 7, .far 11, .far 14, .three 12, .three 10, .three 5, .far 4, .far 3, .three 1, .far 12, .far 0]), (6, -3, [.inn 0 (-3), .far 1, .far 13, .three 2, .far 4, .far 5, .three 6, .three 11, .three 13, .far 15, .far 12, .far 8, .far 9, .out 16]), (6, 4, [.far 8, .far 7, .far 9, .far 14, .far 13, .far 12, .three 10, .three 8, .three 6, .far 4, .far 3, .far 2, .three 0, .far 10, .far 8, .far 9]), (6, -4, [.inn 0 (-2), .far 10, .far 9, .far 11, .three 1, .far 3, .far 4, .far 5, .three 7, .three 9, .three 11, .far 13, .far 14, .far 15, .far 10, .far 8, .far 9, .out 16]), (6, 5, [.far 4, .far 5, .far 6, .far 14, .far 13, .far 12, .far 11, .far 10, .far 9, .three 7, .far 3, .far 4, .three 5, .far 2, .three 3, .three 1, .far 7, .far 5, .far 6, .far 3, .far 4, .far 5]), (6, -5, [.inn 0 (-1), .far 6, .far 5, .far 4, .far 7, .far 6, .far 8, .three 2, .three 4, .far 3, .three 6, .far 5, .far 4, .three 8, .far 10, .far 11, .far 12, .far 13, .far 14, .far 15, .far 7, .far 6, .far 5, .out 16])]
theorem b9y : ∀ x ∈ twT, aftL x.1 (twF x.1 ++ [x.2.1]) x.2.2 = some ([a3m x.1 x.2.1] ++ twF x.1) := by decide +kernel
theorem b7s : ∀ n ∈ [(2 : Int), 3, 4, 5, 6], ∀ k ∈ List.range (n - 1).toNat, (twT.any fun x => decide (x.1 = n) && decide (x.2.1 = ((k : Nat) : Int) + 1)) = true ∧ (twT.any fun x => decide (x.1 = n) && decide (x.2.1 = -(((k : Nat) : Int) + 1))) = true := by decide +kernel
theorem b2W {n l : Int} (h1 : 2 ≤ n) (h2 : n ≤ 6) (ht : WordOK n (twF n)) (hl : LetOK n l) : RelW n (twF n ++ [l]) ([a3m n l] ++ twF n) := by
 have hn : n ∈ [(2 : Int), 3, 4, 5, 6] := by
  rcases (show n = 2 ∨ n = 3 ∨ n = 4 ∨ n = 5 ∨ n = 6 by lia) with rfl | rfl | rfl | rfl | rfl <;> decide
 obtain ⟨a1, a2⟩ := hl
 obtain ⟨b1, b2⟩ := b7s n hn (l.natAbs - 1) (List.mem_range.mpr (by lia))
 have key : ∃ x ∈ twT, x.1 = n ∧ x.2.1 = l := by
  by_cases c : 0 < l
  ·obtain ⟨x, hx, e⟩ := List.any_eq_true.mp b1
   rw [Bool.and_eq_true, decide_eq_true_eq, decide_eq_true_eq] at e
   exact ⟨x, hx, e.1, by lia⟩
  ·obtain ⟨x, hx, e⟩ := List.any_eq_true.mp b2
   rw [Bool.and_eq_true, decide_eq_true_eq, decide_eq_true_eq] at e
   exact ⟨x, hx, e.1, by lia⟩
 obtain ⟨x, hx, rfl, rfl⟩ := key
 exact b1T (ht.append (a2t ⟨a1, a2⟩)) (b9y x hx)
theorem b6H {n : Int} (h1 : 2 ≤ n) (h2 : n ≤ 6) (ht : WordOK n (twF n)) : ∀ {w : List Int}, WordOK n w → RelW n (twF n ++ w) (w.map (a3m n) ++ twF n)
 | [], _ => by rw [List.append_nil]; exact .refl _
 | l :: w, hw => by
   have hl := hw l (.head _)
   have hw' : WordOK n w := fun x hx => hw x (.tail _ hx)
   have a := (b2W h1 h2 ht hl).rt hw'
   rw [List.append_assoc] at a
   have b := RelW.lf (a2t hl.flip) (b6H h1 h2 ht hw')
   rw [List.append_assoc] at a
   exact a.trans b
noncomputable def PwI (a b : Nat) (p : Po) : Prop := ∀ x ∈ p, -(a : Int) ≤ x.1 ∧ x.1 ≤ b
theorem PwI.mono {a b c d : Nat} {p : Po} (h : PwI a b p) (h1 : a ≤ c) (h2 : b ≤ d) : PwI c d p := fun x hx => by have := h x hx; lia
theorem b9i {a b : Nat} {p q : Po} (hp : PwI a b p) (hq : PwI a b q) : PwI a b (addP p q) := fun x hx => by
 have key : ∀ (m : Po), (∀ y ∈ m, -(a : Int) ≤ y.1 ∧ y.1 ≤ b) → ∀ y ∈ norm m, -(a : Int) ≤ y.1 ∧ y.1 ≤ b := fun m hm y hy => by
  have h1 : co (norm m) y.1 = y.2 := a2z (a0z m).1 hy
  by_cases c : ∃ z ∈ m, z.1 = y.1
  ·obtain ⟨z, hz, e⟩ := c
   rw [← e]; exact hm z hz
  ·rw [a0F, a1m fun z hz e => c ⟨z, hz, e⟩] at h1
   exact absurd h1.symm ((a0z m).2 y hy)
 unfold addP at hx
 refine key _ (fun y hy => ?_) x hx
 rcases List.mem_append.mp hy with z | z
 ·exact hp y z
 ·exact hq y z
theorem b6C {a b : Nat} {m : Po} (hm : PwI a b m) : PwI a b (norm m) := fun y hy => by
 have h1 : co (norm m) y.1 = y.2 := a2z (a0z m).1 hy
 by_cases c : ∃ z ∈ m, z.1 = y.1
 ·obtain ⟨z, hz, e⟩ := c
  rw [← e]; exact hm z hz
 ·rw [a0F, a1m fun z hz e => c ⟨z, hz, e⟩] at h1
  exact absurd h1.symm ((a0z m).2 y hy)
theorem b9h {a b c d : Nat} {p q : Po} (hp : PwI a b p) (hq : PwI c d q) : PwI (a + c) (b + d) (a0K p q) := by
 unfold a0K
 refine b6C fun y hy => ?_
 unfold rawM at hy
 obtain ⟨u, hu, hy⟩ := List.mem_flatMap.mp hy
 obtain ⟨v, hv, rfl⟩ := List.mem_map.mp hy
 have h1 := hp u hu
 have h2 := hq v hv
 dsimp only
 lia
noncomputable def span (a b : Nat) : List Int := (List.range (a + b + 1)).map fun (i : Nat) => ((i : Int) - (a : Int))
theorem a7l (a b : Nat) : (span a b).length = a + b + 1 := by unfold span; rw [List.length_map, List.length_range]
theorem a5u {a b : Nat} {x : Int} (h : -(a : Int) ≤ x ∧ x ≤ b) : x ∈ span a b := List.mem_map.mpr ⟨(x + (a : Int)).toNat, List.mem_range.mpr (by lia), by show (((x + (a : Int)).toNat : Nat) : Int) - (a : Int) = x; lia⟩
theorem CanP.lenI {p : Po} (h : CanP p) {a b : Nat} (hb : PwI a b p) : p.length ≤ a + b + 1 := by
 have h1 : (p.map Prod.fst).Nodup := List.pairwise_map.mpr (h.1.imp fun h z => Int.ne_of_lt h z)
 have h2 : (p.map Prod.fst).length ≤ (span a b).length := List.Nodup.length_le_of_subset h1 fun k hk => by
  obtain ⟨x, hx, rfl⟩ := List.mem_map.mp hk
  exact a5u (hb x hx)
 rwa [List.length_map, a7l] at h2
noncomputable def Sml (p : Po) : Prop := ∀ x ∈ p, x.2.natAbs < 2 ^ 64
theorem b5n {a b c d : Nat} {p q : Po} (hp : PwI a b p) (hq : PwI c d q) : ∀ x ∈ p, ∀ y ∈ q, x.1 + y.1 ∈ span (a + c) (b + d) := fun x hx y hy => a5u (by
 have h1 := hp x hx
 have h2 := hq y hy
 lia)
noncomputable def GdI (a b : Nat) (p : Po) : Prop := CanP p ∧ PwI a b p
theorem GdI.add {a b : Nat} {p q : Po} (hp : GdI a b p) (hq : GdI a b q) : GdI a b (addP p q) := ⟨a0z _, b9i hp.2 hq.2⟩
theorem GdI.mul {a b c d : Nat} {p q : Po} (hp : GdI a b p) (hq : GdI c d q) : GdI (a + c) (b + d) (a0K p q) := ⟨a0z _, b9h hp.2 hq.2⟩
theorem GdI.mono {a b c d : Nat} {p : Po} (hp : GdI a b p) (h1 : a ≤ c) (h2 : b ≤ d) : GdI c d p := ⟨hp.1, hp.2.mono h1 h2⟩
theorem a7R : ∀ c, GdI 0 0 (sgnP c) := fun c => by
 obtain ⟨h1, h2, _⟩ := a7O c
 exact ⟨h1, fun x hx => by have := h2 x hx; lia⟩
theorem b1x : GdI 0 0 [(0, -1)] := ⟨⟨by decide, by decide⟩, by unfold PwI; decide⟩
theorem b8M (a b : Nat) : GdI a b [] := ⟨⟨.nil, fun _ z => absurd z List.not_mem_nil⟩, fun _ z => absurd z List.not_mem_nil⟩
theorem b4l (r c : Int) : GdI 0 0 (oneP r c) := by
 unfold oneP
 split
 ·exact ⟨⟨by decide, by decide⟩, by unfold PwI; decide⟩
 ·exact ⟨⟨by decide, by decide⟩, by unfold PwI; decide⟩
noncomputable def b0M (n a b : Nat) (rs : List (List Po)) : Prop := rs.length = n ∧ ∀ ps ∈ rs, ps.length = n ∧ ∀ p ∈ ps, GdI a b p ∧ Sml p
theorem a3Y {n a b c : Nat} {rs : List (List Po)} (h : ∀ ps ∈ rs, ps.length = n + 1 ∧ ∀ p ∈ ps, GdI a b p ∧ Sml p) (hc : c < n + 1) (hl : rs.length = n) : b0M n a b (a1X c rs) := by
 refine ⟨by unfold a1X; rw [List.length_map]; exact hl, fun ps hps => ?_⟩
 unfold a1X at hps
 obtain ⟨qs, hq, rfl⟩ := List.mem_map.mp hps
 obtain ⟨h1, h2⟩ := h qs hq
 refine ⟨by rw [List.length_append, List.length_take, List.length_drop, h1]; lia, fun p hp => ?_⟩
 rcases List.mem_append.mp hp with z | z
 ·exact h2 p (List.mem_of_mem_take z)
 ·exact h2 p (List.mem_of_mem_drop z)
theorem a3X {a b m : Nat} {ps : List Po} {f : Nat → Po} (hp : ∀ p ∈ ps, GdI a b p ∧ Sml p) (hf : ∀ c, c < ps.length → GdI (m * a) (m * b) (f c)) : ∀ c, c ≤ ps.length → GdI ((m + 1) * a) ((m + 1) * b) ((List.range c).foldl (a4C ps f) [])
 | 0, _ => b8M _ _
 | c + 1, h => by
   rw [a4U]
   have ih := a3X hp hf c (by lia)
   unfold a4C
   split
   ·exact ih
   ·have hpc : GdI a b (ps.getD c []) := by
     rw [List.getD_eq_getElem?_getD, List.getElem?_eq_getElem (by lia : c < ps.length)]
     exact (hp _ (List.getElem_mem _)).1
    have h1 := (hpc.mul (hf c (by lia))).mul (a7R c)
    exact ih.add (h1.mono (by rw [Nat.add_mul]; lia) (by rw [Nat.add_mul]; lia))
theorem a1O {a b : Nat} : ∀ (m : Nat) {rs : List (List Po)}, b0M m a b rs → GdI (m * a) (m * b) (detP (m + 1) rs)
 | 0, rs, h => by
   obtain rfl := List.eq_nil_of_length_eq_zero h.1
   show GdI (0 * a) (0 * b) [(0, 1)]
   rw [Nat.zero_mul, Nat.zero_mul]
   exact ⟨⟨by decide, by decide⟩, by unfold PwI; decide⟩
 | m + 1, rs, h => by
   cases rs with
   | nil => exact absurd h.1 (by simp)
   | cons ps rs =>
     obtain ⟨g1, g2⟩ := h.2 ps (.head _)
     have hl : rs.length = m := by have := h.1; rw [List.length_cons] at this; lia
     have hr : ∀ qs ∈ rs, qs.length = m + 1 ∧ ∀ p ∈ qs, GdI a b p ∧ Sml p := fun qs hq => h.2 qs (.tail _ hq)
     show GdI ((m + 1) * a) ((m + 1) * b) ((List.range ps.length).foldl (a4C ps fun c => detP (m + 1) (a1X c rs)) [])
     exact a3X g2 (fun c hc => a1O m (a3Y hr (by rw [← g1]; exact hc) hl)) _ (Nat.le_refl _)
noncomputable def nU : List Int → Nat
 | [] => 0
 | l :: w => (if 0 < l then 1 else 0) + nU w
noncomputable def nD : List Int → Nat
 | [] => 0
 | l :: w => (if 0 < l then 0 else 1) + nD w
theorem b8x : ∀ w : List Int, nD w + nU w = w.length
 | [] => rfl
 | l :: w => by
   have := b8x w
   show (if 0 < l then 0 else 1) + nD w + ((if 0 < l then 1 else 0) + nU w) = w.length + 1
   split <;> lia
theorem c0V {a b : Nat} {l : Int} {p q : Po} (hp : GdI a b p) (hq : GdI a b q) : GdI (a + if 0 < l then 0 else 1) (b + if 0 < l then 1 else 0) (wl1 l p q) ∧ GdI (a + if 0 < l then 0 else 1) (b + if 0 < l then 1 else 0) (wl2 l p q) := by
 have u : GdI 0 1 upP := ⟨⟨by decide, by decide⟩, by unfold PwI; decide⟩
 have lu : GdI 0 1 lupP := ⟨⟨by decide, by decide⟩, by unfold PwI; decide⟩
 have d : GdI 1 0 a4X := ⟨⟨by decide, by decide⟩, by unfold PwI; decide⟩
 have ld : GdI 1 0 a3N := ⟨⟨by decide, by decide⟩, by unfold PwI; decide⟩
 unfold wl1 wl2
 split
 ·exact ⟨(hp.mul lu).add (hq.mono (by lia) (by lia)), hp.mul u⟩
 ·exact ⟨hq.mul d, (hp.mono (by lia) (by lia)).add (hq.mul ld)⟩
theorem tabI {n : Nat} : ∀ (ws : List Int) {a b : Nat} {rs : List (List Po)}, (rs.length = n ∧ ∀ ps ∈ rs, ps.length = n ∧ ∀ p ∈ ps, GdI a b p) → (∀ l ∈ ws, 1 ≤ l.natAbs ∧ l.natAbs < n) → ((ws.foldl (fun rs l => rs.map fun ps => wlP ps l) rs).length = n ∧ ∀ ps ∈ ws.foldl (fun rs l => rs.map fun ps => wlP ps l) rs, ps.length = n ∧ ∀ p ∈ ps, GdI (a + nD ws) (b + nU ws) p)
 | [], a, b, rs, h, _ => h
 | l :: w, a, b, rs, h, hw => by
   obtain ⟨l1, l2⟩ := hw l (.head _)
   have hstep : (rs.map fun ps => wlP ps l).length = n ∧ ∀ ps ∈ rs.map fun ps => wlP ps l, ps.length = n ∧ ∀ p ∈ ps, GdI (a + if 0 < l then 0 else 1) (b + if 0 < l then 1 else 0) p := by
    refine ⟨by rw [List.length_map]; exact h.1, fun ps hps => ?_⟩
    obtain ⟨qs, hq, rfl⟩ := List.mem_map.mp hps
    obtain ⟨g1, g2⟩ := h.2 qs hq
    refine ⟨by rw [a7b l1 (by rw [g1]; exact l2)]; exact g1, fun p hp => ?_⟩
    have up : ∀ {p : Po}, GdI a b p → GdI (a + if 0 < l then 0 else 1) (b + if 0 < l then 1 else 0) p := fun z => z.mono (by lia) (by lia)
    have gg : ∀ i, i < qs.length → GdI a b (qs.getD i []) := fun i hi => by
     rw [List.getD_eq_getElem?_getD, List.getElem?_eq_getElem hi]; exact g2 _ (List.getElem_mem _)
    have gw := c0V (l := l) (gg (l.natAbs - 1) (by lia)) (gg l.natAbs (by lia))
    unfold wlP at hp
    rcases List.mem_append.mp hp with z | z
    ·exact up (g2 p (List.mem_of_mem_take z))
    rcases List.mem_append.mp z with z | z
    ·rcases List.mem_cons.mp z with e | z
     ·rw [e]; exact gw.1
     ·rw [List.mem_singleton.mp z]; exact gw.2
    ·exact up (g2 p (List.mem_of_mem_drop z))
   have := tabI w hstep fun x hx => hw x (.tail _ hx)
   have e1 : nD (l :: w) = (if 0 < l then 0 else 1) + nD w := rfl
   have e2 : nU (l :: w) = (if 0 < l then 1 else 0) + nU w := rfl
   rw [e1, e2, ← Nat.add_assoc, ← Nat.add_assoc]
   exact this
theorem a6B {n : Int} {ws : List Int} (hw : WordOK n ws) : ∀ ps ∈ tabP n ws, ∀ p ∈ ps, GdI (nD ws) (nU ws) p := by
 have h := tabI (n := n.toNat) ws (a := 0) (b := 0) (rs := idP n) ⟨(a2N n).1, fun ps hps => ⟨((a2N n).2 ps hps).1, fun p hp => by
  unfold idP at hps
  obtain ⟨r, _, rfl⟩ := List.mem_map.mp hps
  obtain ⟨c, _, rfl⟩ := List.mem_map.mp hp
  exact b4l r c⟩⟩ (fun l hl => by obtain ⟨a, b⟩ := hw l hl; exact ⟨by lia, by lia⟩)
 rw [Nat.zero_add, Nat.zero_add] at h
 exact fun ps hps => (h.2 ps hps).2
theorem a1J {n : Int} {ws : List Int} (ok : PlOK n ws) : b0M (n.toNat - 1) (nD ws) (nU ws) (a1Y n ws) := by
 have hG := b2y ok
 have hp : 1 + 3 ^ ws.length < 2 ^ 64 := by
  have : 3 ^ ws.length ≤ 3 ^ 16 := Nat.pow_le_pow_right (by decide) ok.2.2.1
  have : 1 + 3 ^ 16 < 2 ^ 64 := by decide
  lia
 refine ⟨hG.1, fun ps hps => ⟨(hG.2 ps hps).1, fun p hpp => ⟨?_, b8y ((hG.2 ps hps).2 p hpp) hp⟩⟩⟩
 unfold a1Y at hps
 obtain ⟨r, hr, rfl⟩ := List.mem_map.mp hps
 obtain ⟨c, hc, rfl⟩ := List.mem_map.mp hpp
 have hr := List.mem_range.mp hr
 have hc := List.mem_range.mp hc
 have hT := a0P (n := n) ok.2.2.2
 have g : GdI (nD ws) (nU ws) (((tabP n ws).getD (r + 1) []).getD (c + 1) []) := by
  have hl : r + 1 < (tabP n ws).length := by rw [hT.1]; lia
  have hm : (tabP n ws).getD (r + 1) [] ∈ tabP n ws := by
   rw [List.getD_eq_getElem?_getD, List.getElem?_eq_getElem hl]; exact List.getElem_mem _
  refine a6B ok.2.2.2 _ hm _ ?_
  have hl2 : c + 1 < ((tabP n ws).getD (r + 1) []).length := by rw [(hT.2 _ hm).1]; lia
  rw [List.getD_eq_getElem?_getD (i := c + 1), List.getElem?_eq_getElem hl2]; exact List.getElem_mem _
 exact ((b4l _ _).mono (Nat.zero_le _) (Nat.zero_le _)).add ((g.mul b1x).mono (by lia) (by lia))
noncomputable def a9G (n : Int) (ws : List Int) : Prop := (n.toNat - 1) * ws.length ≤ 62
theorem a8w {n : Int} {ws : List Int} (ok : PlOK n ws) (h : a9G n ws) : GdI ((n.toNat - 1) * nD ws) ((n.toNat - 1) * nU ws) (detP (n.toNat - 1 + 1) (a1Y n ws)) ∧ (n.toNat - 1) * nD ws + (n.toNat - 1) * nU ws ≤ 62 := ⟨a1O _ (a1J ok), by rw [← Nat.mul_add, b8x]; exact h⟩
theorem a6X {n : Int} {ws : List Int} (ok : PlOK n ws) (h : a9G n ws) : (a0s n ws).length ≤ 63 := by
 obtain ⟨h1, h2⟩ := a8w ok h
 have := h1.1.lenI h1.2
 unfold a0s
 refine Nat.le_trans (b4p _) ?_
 have := ok.1
 rw [show n.toNat = n.toNat - 1 + 1 by lia]
 lia
theorem b2e : toL [(0, 0)] = zL := Lp.ext2 fun c => by
 rw [co_L]
 show (if (0 : Int) = c then (0 : Int) else 0) + 0 = co (toL []).1 c
 rw [co_L]
 split <;> rfl
noncomputable instance : NatCast Lp := ⟨fun n => sgU n⟩
noncomputable instance {n : Nat} : OfNat Lp n := ⟨sgU n⟩
noncomputable instance : IntCast Lp := ⟨sgU⟩
noncomputable instance : Neg Lp := ⟨fun a => sgU (-1) * a⟩
noncomputable instance : _root_.Sub Lp := ⟨fun a b => a + sgU (-1) * b⟩
noncomputable instance : SMul Nat Lp := ⟨fun n a => sgU n * a⟩
noncomputable instance : SMul Int Lp := ⟨fun n a => sgU n * a⟩
noncomputable def powL (a : Lp) : Nat → Lp
 | 0 => sgU 1
 | n + 1 => powL a n * a
noncomputable instance : HPow Lp Nat Lp := ⟨powL⟩
theorem b3j (a b : Int) : sgU (a + b) = sgU a + sgU b := Lp.ext2 fun c => by
 unfold sgU
 rw [a1z, co_L, co_L, co_L, a9t, a9t, a9t]
 split <;> lia
theorem a7p : sgU 0 = zL := b2e
noncomputable instance : Lean.Grind.CommRing Lp where
 add_zero a := by show a + sgU ((0 : Nat) : Int) = a; exact (by rw [show ((0 : Nat) : Int) = 0 from rfl, a7p, b7f])
 add_comm := a9F
 add_assoc := a6Z
 mul_assoc := a4O
 mul_one a := by show a * sgU ((1 : Nat) : Int) = a; exact b1m a
 one_mul a := by show sgU ((1 : Nat) : Int) * a = a; rw [a1k]; exact b1m a
 left_distrib := b8R
 right_distrib a b c := by rw [a1k, b8R, a1k c, a1k c]
 zero_mul a := by show sgU ((0 : Nat) : Int) * a = sgU ((0 : Nat) : Int); rw [show ((0 : Nat) : Int) = 0 from rfl, a7p, a1k, a8R]
 mul_zero a := by show a * sgU ((0 : Nat) : Int) = sgU ((0 : Nat) : Int); rw [show ((0 : Nat) : Int) = 0 from rfl, a7p, a8R]
 pow_zero a := rfl
 pow_succ a n := rfl
 ofNat_succ n := by
  show sgU ((n + 1 : Nat) : Int) = sgU (n : Int) + sgU ((1 : Nat) : Int)
  rw [Int.natCast_add, b3j]
 ofNat_eq_natCast n := rfl
 nsmul_eq_natCast_mul n a := rfl
 neg_add_cancel a := by
  show sgU (-1) * a + a = sgU ((0 : Nat) : Int)
  have e : sgU (-1) * a + a = sgU (-1) * a + sgU 1 * a := by rw [show sgU 1 * a = a from by rw [a1k]; exact b1m a]
  rw [e, a1k, a1k (sgU 1), ← b8R, ← b3j, show (-1 : Int) + 1 = 0 by decide, a7p, a8R]
  exact a7p.symm
 sub_eq_add_neg a b := rfl
 neg_zsmul i a := by
  show sgU (-i) * a = sgU (-1) * (sgU i * a)
  rw [← a4O, a9V, show -1 * i = -i by lia]
 zsmul_natCast_eq_nsmul n a := rfl
 intCast_ofNat n := rfl
 intCast_neg i := by
  show sgU (-i) = sgU (-1) * sgU i
  rw [a9V, show -1 * i = -i by lia]
 mul_comm := a1k
theorem a8k : zL = (0 : Lp) := a7p.symm
theorem a3B : sgU (-1) = (-1 : Lp) := by
 show sgU (-1) = sgU (-1) * sgU ((1 : Nat) : Int)
 exact (b1m _).symm
section
variable {R : Type} [Lean.Grind.CommRing R]
noncomputable def M2d (a b c d : R) : R := a * d - b * c
noncomputable def M3d (a b c d e f g h i : R) : R := a * (e * i - f * h) - b * (d * i - f * g) + c * (d * h - e * g)
noncomputable def D1 (A : Nat → Nat → R) : R := A 0 0
noncomputable def D2 (A : Nat → Nat → R) : R := M2d (A 0 0) (A 0 1) (A 1 0) (A 1 1)
noncomputable def D3 (A : Nat → Nat → R) : R := M3d (A 0 0) (A 0 1) (A 0 2) (A 1 0) (A 1 1) (A 1 2) (A 2 0) (A 2 1) (A 2 2)
noncomputable def D4 (A : Nat → Nat → R) : R := A 0 0 * M3d (A 1 1) (A 1 2) (A 1 3) (A 2 1) (A 2 2) (A 2 3) (A 3 1) (A 3 2) (A 3 3) - A 0 1 * M3d (A 1 0) (A 1 2) (A 1 3) (A 2 0) (A 2 2) (A 2 3) (A 3 0) (A 3 2) (A 3 3) + A 0 2 * M3d (A 1 0) (A 1 1) (A 1 3) (A 2 0) (A 2 1) (A 2 3) (A 3 0) (A 3 1) (A 3 3) - A 0 3 * M3d (A 1 0) (A 1 1) (A 1 2) (A 2 0) (A 2 1) (A 2 2) (A 3 0) (A 3 1) (A 3 2)
noncomputable def DD : Nat → (Nat → Nat → R) → R
 | 0, _ => 1
 | 1, A => D1 A
 | 2, A => D2 A
 | 3, A => D3 A
 | _, A => D4 A
noncomputable def SR : Nat → (Nat → R) → R
 | 0, _ => 0
 | m + 1, g => SR m g + g m
noncomputable def mmul (m : Nat) (A B : Nat → Nat → R) : Nat → Nat → R := fun i j => SR m fun k => A i k * B k j
theorem b9n (a b c d e f g h i a' b' c' d' e' f' g' h' i' : R) : M3d (a * a' + b * d' + c * g') (a * b' + b * e' + c * h') (a * c' + b * f' + c * i') (d * a' + e * d' + f * g') (d * b' + e * e' + f * h') (d * c' + e * f' + f * i') (g * a' + h * d' + i * g') (g * b' + h * e' + i * h') (g * c' + h * f' + i * i') = M3d a b c d e f g h i * M3d a' b' c' d' e' f' g' h' i' := by
 unfold M3d; grind
theorem b9o (a b c d a' b' c' d' : R) : M2d (a * a' + b * c') (a * b' + b * d') (c * a' + d * c') (c * b' + d * d') = M2d a b c d * M2d a' b' c' d' := by
 unfold M2d; grind
theorem SR1 (g : Nat → R) : SR 1 g = g 0 := by unfold SR SR; grind
theorem SR2 (g : Nat → R) : SR 2 g = g 0 + g 1 := by unfold SR; rw [SR1]
theorem SR3 (g : Nat → R) : SR 3 g = g 0 + g 1 + g 2 := by unfold SR; rw [SR2]
theorem SR4 (g : Nat → R) : SR 4 g = g 0 + g 1 + g 2 + g 3 := by unfold SR; rw [SR3]
theorem b1X {m : Nat} (hm : m ≤ 3) (A B : Nat → Nat → R) : DD m (mmul m A B) = DD m A * DD m B := by
 match m, hm with
 | 0, _ => show (1 : R) = 1 * 1; grind
 | 1, _ => show SR 1 (fun k => A 0 k * B k 0) = A 0 0 * B 0 0; rw [SR1]
 | 2, _ =>
   show M2d (SR 2 _) (SR 2 _) (SR 2 _) (SR 2 _) = _
   rw [SR2, SR2, SR2, SR2]
   exact b9o ..
 | 3, _ =>
   show M3d (SR 3 _) (SR 3 _) (SR 3 _) (SR 3 _) (SR 3 _) (SR 3 _) (SR 3 _) (SR 3 _) (SR 3 _) = _
   rw [SR3, SR3, SR3, SR3, SR3, SR3, SR3, SR3, SR3]
   exact b9n ..
theorem a2h {m : Nat} (hm : m ≤ 4) {A B : Nat → Nat → R} (h : ∀ i j, i < m → j < m → A i j = B i j) : DD m A = DD m B := by
 match m, hm with
 | 0, _ => rfl
 | 1, _ => exact h 0 0 (by decide) (by decide)
 | 2, _ =>
   show M2d _ _ _ _ = M2d _ _ _ _
   rw [h 0 0 (by decide) (by decide), h 0 1 (by decide) (by decide), h 1 0 (by decide) (by decide), h 1 1 (by decide) (by decide)]
 | 3, _ =>
   show M3d _ _ _ _ _ _ _ _ _ = M3d _ _ _ _ _ _ _ _ _
   rw [h 0 0 (by decide) (by decide), h 0 1 (by decide) (by decide), h 0 2 (by decide) (by decide), h 1 0 (by decide) (by decide), h 1 1 (by decide) (by decide), h 1 2 (by decide) (by decide), h 2 0 (by decide) (by decide), h 2 1 (by decide) (by decide), h 2 2 (by decide) (by decide)]
 | 4, _ =>
   show D4 A = D4 B
   unfold D4
   rw [h 0 0 (by decide) (by decide), h 0 1 (by decide) (by decide), h 0 2 (by decide) (by decide), h 0 3 (by decide) (by decide), h 1 0 (by decide) (by decide), h 1 1 (by decide) (by decide), h 1 2 (by decide) (by decide), h 1 3 (by decide) (by decide), h 2 0 (by decide) (by decide), h 2 1 (by decide) (by decide), h 2 2 (by decide) (by decide), h 2 3 (by decide) (by decide), h 3 0 (by decide) (by decide), h 3 1 (by decide) (by decide), h 3 2 (by decide) (by decide), h 3 3 (by decide) (by decide)]
noncomputable def sgN : Nat → R
 | 0 => 1
 | 1 => -1
 | 2 => 1
 | _ => -1
noncomputable def vP (v : Nat → R) : Nat → R
 | 0 => 1
 | 1 => v 0
 | 2 => v 0 * v 1
 | _ => v 0 * v 1 * v 2
theorem b6D {m : Nat} (hm : m ≤ 3) (v : Nat → R) (A B : Nat → Nat → R) (h : ∀ i j, i < m → j < m → v i * A i j = v j * B j i) : vP v m * DD m A = vP v m * DD m B := by
 match m, hm with
 | 0, _ => rfl
 | 1, _ => exact h 0 0 (by decide) (by decide)
 | 2, _ =>
   have e1 : v 0 * v 1 * M2d (A 0 0) (A 0 1) (A 1 0) (A 1 1) = M2d (v 0 * A 0 0) (v 0 * A 0 1) (v 1 * A 1 0) (v 1 * A 1 1) := by unfold M2d; grind
   show v 0 * v 1 * M2d (A 0 0) (A 0 1) (A 1 0) (A 1 1) = v 0 * v 1 * M2d (B 0 0) (B 0 1) (B 1 0) (B 1 1)
   rw [e1, h 0 0 (by decide) (by decide), h 0 1 (by decide) (by decide), h 1 0 (by decide) (by decide), h 1 1 (by decide) (by decide)]
   unfold M2d; grind
 | 3, _ =>
   have e1 : v 0 * v 1 * v 2 * M3d (A 0 0) (A 0 1) (A 0 2) (A 1 0) (A 1 1) (A 1 2) (A 2 0) (A 2 1) (A 2 2) = M3d (v 0 * A 0 0) (v 0 * A 0 1) (v 0 * A 0 2) (v 1 * A 1 0) (v 1 * A 1 1) (v 1 * A 1 2) (v 2 * A 2 0) (v 2 * A 2 1) (v 2 * A 2 2) := by unfold M3d; grind
   show v 0 * v 1 * v 2 * M3d (A 0 0) (A 0 1) (A 0 2) (A 1 0) (A 1 1) (A 1 2) (A 2 0) (A 2 1) (A 2 2) = v 0 * v 1 * v 2 * M3d (B 0 0) (B 0 1) (B 0 2) (B 1 0) (B 1 1) (B 1 2) (B 2 0) (B 2 1) (B 2 2)
   rw [e1, h 0 0 (by decide) (by decide), h 0 1 (by decide) (by decide), h 0 2 (by decide) (by decide), h 1 0 (by decide) (by decide), h 1 1 (by decide) (by decide), h 1 2 (by decide) (by decide), h 2 0 (by decide) (by decide), h 2 1 (by decide) (by decide), h 2 2 (by decide) (by decide)]
   unfold M3d; grind
theorem b9t {m : Nat} (hm : m ≤ 3) (v : Nat → R) (A E : Nat → Nat → R) (h : ∀ i j, i < m → j < m → E i j = A i j + SR m fun k => v k * A k j) : DD m E = (1 + SR m v) * DD m A := by
 match m, hm with
 | 0, _ => show (1 : R) = (1 + 0) * 1; grind
 | 1, _ =>
   show E 0 0 = (1 + SR 1 v) * A 0 0
   rw [h 0 0 (by decide) (by decide), SR1, SR1]; grind
 | 2, _ =>
   show M2d (E 0 0) (E 0 1) (E 1 0) (E 1 1) = (1 + SR 2 v) * M2d (A 0 0) (A 0 1) (A 1 0) (A 1 1)
   rw [h 0 0 (by decide) (by decide), h 0 1 (by decide) (by decide), h 1 0 (by decide) (by decide), h 1 1 (by decide) (by decide)]
   simp only [SR2]
   unfold M2d; grind
 | 3, _ =>
   show M3d (E 0 0) (E 0 1) (E 0 2) (E 1 0) (E 1 1) (E 1 2) (E 2 0) (E 2 1) (E 2 2) = (1 + SR 3 v) * M3d (A 0 0) (A 0 1) (A 0 2) (A 1 0) (A 1 1) (A 1 2) (A 2 0) (A 2 1) (A 2 2)
   rw [h 0 0 (by decide) (by decide), h 0 1 (by decide) (by decide), h 0 2 (by decide) (by decide), h 1 0 (by decide) (by decide), h 1 1 (by decide) (by decide), h 1 2 (by decide) (by decide), h 2 0 (by decide) (by decide), h 2 1 (by decide) (by decide), h 2 2 (by decide) (by decide)]
   simp only [SR3]
   unfold M3d; grind
theorem c1r {m : Nat} (hm : m ≤ 3) (A : Nat → Nat → R) : DD m (fun i j => -A i j) = sgN m * DD m A := by
 match m, hm with
 | 0, _ => show (1 : R) = 1 * 1; grind
 | 1, _ => show -A 0 0 = -1 * A 0 0; grind
 | 2, _ => show M2d _ _ _ _ = 1 * M2d _ _ _ _; unfold M2d; grind
 | 3, _ => show M3d _ _ _ _ _ _ _ _ _ = -1 * M3d _ _ _ _ _ _ _ _ _; unfold M3d; grind
end
noncomputable def BL (n : Int) (w : List Int) (i j : Nat) : Lp := toL (((tabP n w).getD i []).getD j [])
theorem b9c (m : Nat) (g : Nat → Lp) : Su m g = SR m g := by
 induction m with
 | zero => exact a8k
 | succ m ih => show Su m g + g m = SR m g + g m; rw [ih]
theorem a1E {R : Type} [Lean.Grind.CommRing R] {m : Nat} {f g : Nat → R} (h : ∀ i, i < m → f i = g i) : SR m f = SR m g := by
 induction m with
 | zero => rfl
 | succ m ih => show SR m f + f m = SR m g + g m; rw [ih fun i hi => h i (by lia), h m (by lia)]
theorem a4w {R : Type} [Lean.Grind.CommRing R] (m : Nat) (f g : Nat → R) : SR m (fun i => f i - g i) = SR m f - SR m g := by
 induction m with
 | zero => show (0 : R) = 0 - 0; grind
 | succ m ih => show SR m (fun i => f i - g i) + (f m - g m) = (SR m f + f m) - (SR m g + g m); rw [ih]; grind
theorem b7g {R : Type} [Lean.Grind.CommRing R] (a : R) (m : Nat) (f : Nat → R) : SR m (fun i => a * f i) = a * SR m f := by
 induction m with
 | zero => show (0 : R) = a * 0; grind
 | succ m ih => show SR m (fun i => a * f i) + a * f m = a * (SR m f + f m); rw [ih]; grind
theorem b9f {R : Type} [Lean.Grind.CommRing R] (a : R) (m : Nat) (f : Nat → R) : SR m (fun i => f i * a) = SR m f * a := by
 induction m with
 | zero => show (0 : R) = 0 * a; grind
 | succ m ih => show SR m (fun i => f i * a) + f m * a = (SR m f + f m) * a; rw [ih]; grind
theorem a6i {R : Type} [Lean.Grind.CommRing R] (m : Nat) (f : Nat → R) : SR (m + 1) f = f 0 + SR m fun i => f (i + 1) := by
 induction m with
 | zero => show (0 : R) + f 0 = f 0 + 0; grind
 | succ m ih => show SR (m + 1) f + f (m + 1) = f 0 + (SR m (fun i => f (i + 1)) + f (m + 1)); rw [ih]; grind
theorem a9H {R : Type} [Lean.Grind.CommRing R] {m i : Nat} (hi : i < m) (f : Nat → R) : SR m (fun k => (if i = k then 1 else 0) * f k) = f i := by
 induction m with
 | zero => lia
 | succ m ih =>
   show SR m (fun k => (if i = k then 1 else 0) * f k) + (if i = m then 1 else 0) * f m = f i
   by_cases c : i = m
   ·subst c
    rw [if_pos rfl, a1E (g := fun _ => (0 : R)) fun k hk => by rw [if_neg (by lia)]; grind]
    have : ∀ k, SR k (fun _ => (0 : R)) = 0 := fun k => by
     induction k with
     | zero => rfl
     | succ k ih => show SR k (fun _ => (0 : R)) + 0 = 0; rw [ih]; grind
    rw [this]; grind
   ·rw [if_neg c, ih (by lia)]; grind
theorem b1Z {n : Int} {u v : List Int} (hu : WordOK n u) (hv : WordOK n v) {i j : Nat} (hi : i < n.toNat) (hj : j < n.toNat) : BL n (u ++ v) i j = SR n.toNat fun k => BL n u i k * BL n v k j := by
 unfold BL
 rw [b7v hu hv]
 have hlen := (a0P hu).1
 have e : ((matP n.toNat (tabP n u) (tabP n v)).getD i []).getD j [] = matE ((tabP n u).getD i []) (tabP n v) n.toNat j := by
  unfold matP
  rw [List.getD_eq_getElem?_getD (i := i), List.getElem?_map, List.getElem?_eq_getElem (by lia : i < (tabP n u).length)]
  show ((List.range n.toNat).map fun j => matE (tabP n u)[i] (tabP n v) n.toNat j).getD j [] = _
  rw [List.getD_eq_getElem?_getD, List.getElem?_map, List.getElem?_range hj]
  show matE (tabP n u)[i] _ _ _ = _
  rw [List.getD_eq_getElem?_getD, List.getElem?_eq_getElem (by lia : i < (tabP n u).length)]; rfl
 rw [e]
 unfold matE
 rw [a5p, b9c]
 exact a1E fun k hk => a1Z _ _
theorem b1Y {n : Int} {w : List Int} (hw : WordOK n w) {i : Nat} (hi : i < n.toNat) : SR n.toNat (fun j => BL n w i j) = 1 := by
 have hlen := (a0P hw).1
 have hr : (tabP n w).getD i [] ∈ tabP n w := by
  rw [List.getD_eq_getElem?_getD, List.getElem?_eq_getElem (by lia : i < (tabP n w).length)]; exact List.getElem_mem _
 have h := congrArg toL (b7J hw hr)
 rw [a5p, b9c] at h
 exact h
noncomputable def tL (k : Nat) : Lp := toL [((k : Int), 1)]
theorem b7m {n : Int} {w : List Int} (hw : WordOK n w) {k : Nat} (hk : k < n.toNat) : SR n.toNat (fun j => tL j * BL n w j k) = tL k := by
 have h := congrArg toL (b8V hw hk)
 rw [a5p, b9c] at h
 rw [← show toL [((k : Int), 1)] = tL k from rfl, ← h]
 exact a1E fun j _ => (a1Z _ _).symm
theorem a5g {n : Int} {i j : Nat} (hi : i < n.toNat) (hj : j < n.toNat) : BL n [] i j = if i = j then 1 else 0 := by
 unfold BL
 show toL (((idP n).getD i []).getD j []) = _
 have h1 := a0e n
 have e0 : (a0g n)[i]? = some (i : Int) := by unfold a0g; rw [List.getElem?_map, List.getElem?_range hi]; rfl
 have e1 : (a0g n)[j]? = some (j : Int) := by unfold a0g; rw [List.getElem?_map, List.getElem?_range hj]; rfl
 have e : ((idP n).getD i []).getD j [] = oneP i j := by
  unfold idP
  rw [List.getD_eq_getElem?_getD (i := i), List.getElem?_map, e0]
  show ((a0g n).map fun c => oneP i c).getD j [] = _
  rw [List.getD_eq_getElem?_getD, List.getElem?_map, e1]; rfl
 rw [e]
 unfold oneP
 by_cases c : i = j
 ·rw [if_pos c, if_pos (by rw [c])]; rfl
 ·rw [if_neg c, if_neg (by lia)]; exact a8k
theorem b7l {n : Int} {w v : List Int} (h : RelW n w v) (hw : WordOK n w) (hv : WordOK n v) (i j : Nat) : BL n w i j = BL n v i j := by
 unfold BL; rw [b7u h hw hv]
noncomputable def AL1 (n : Int) (w : List Int) (i j : Nat) : Lp := (if i = j then 1 else 0) - BL n w (i + 1) (j + 1)
theorem b8C {n : Int} {w : List Int} {i j : Nat} (hi : i < n.toNat - 1) (hj : j < n.toNat - 1) : eltL (a1Y n w) i j = AL1 n w i j := by
 unfold eltL a1Y AL1 BL
 rw [List.getD_eq_getElem?_getD (i := i), List.getElem?_map, List.getElem?_range hi]
 show toL (((List.range (n.toNat - 1)).map fun c => addP (oneP ((i + 1 : Nat) : Int) ((c + 1 : Nat) : Int)) (a0K (((tabP n w).getD (i + 1) []).getD (c + 1) []) [(0, -1)])).getD j []) = _
 rw [List.getD_eq_getElem?_getD, List.getElem?_map, List.getElem?_range hj]
 show toL (addP (oneP ((i + 1 : Nat) : Int) ((j + 1 : Nat) : Int)) (a0K (((tabP n w).getD (i + 1) []).getD (j + 1) []) [(0, -1)])) = _
 rw [a4A, a1Z]
 have e1 : toL (oneP ((i + 1 : Nat) : Int) ((j + 1 : Nat) : Int)) = if i = j then (1 : Lp) else 0 := by
  unfold oneP
  by_cases c : i = j
  ·rw [if_pos c, if_pos (by rw [c])]; rfl
  ·rw [if_neg c, if_neg (by lia)]; exact a8k
 rw [e1, show toL [(0, -1)] = (-1 : Lp) from a3B]
 grind
theorem b5q : sgL 0 = (1 : Lp) := by rw [a4f]; rfl
theorem b7E : sgL 1 = (-1 : Lp) := by rw [a4f]; exact a3B
theorem c0a : sgL 2 = (1 : Lp) := by rw [a4f]; rfl
theorem c1B : sgL 3 = (-1 : Lp) := by rw [a4f]; exact a3B
theorem c1q (A : Nat → Nat → Lp) : Drow sgL 0 A = 1 := rfl
theorem b5i (A : Nat → Nat → Lp) : Drow sgL 1 A = A 0 0 := by
 show zL + sgL 0 * A 0 0 * Drow sgL 0 _ = _
 rw [c1q, b5q, a8k]; grind
theorem b1W (A : Nat → Nat → Lp) : Drow sgL 2 A = D2 A := by
 show zL + sgL 0 * A 0 0 * Drow sgL 1 _ + sgL 1 * A 0 1 * Drow sgL 1 _ = _
 rw [b5i, b5i, b5q, b7E, a8k]
 show 0 + 1 * A 0 0 * A 1 1 + -1 * A 0 1 * A 1 0 = M2d _ _ _ _
 unfold M2d; grind
theorem a9L (A : Nat → Nat → Lp) : Drow sgL 3 A = D3 A := by
 show zL + sgL 0 * A 0 0 * Drow sgL 2 _ + sgL 1 * A 0 1 * Drow sgL 2 _ + sgL 2 * A 0 2 * Drow sgL 2 _ = _
 rw [b1W, b1W, b1W, b5q, b7E, c0a, a8k]
 show 0 + 1 * A 0 0 * M2d (A 1 1) (A 1 2) (A 2 1) (A 2 2) + -1 * A 0 1 * M2d (A 1 0) (A 1 2) (A 2 0) (A 2 2) + 1 * A 0 2 * M2d (A 1 0) (A 1 1) (A 2 0) (A 2 1) = M3d _ _ _ _ _ _ _ _ _
 unfold M2d M3d; grind
theorem c1p (A : Nat → Nat → Lp) : Drow sgL 4 A = D4 A := by
 show zL + sgL 0 * A 0 0 * Drow sgL 3 _ + sgL 1 * A 0 1 * Drow sgL 3 _ + sgL 2 * A 0 2 * Drow sgL 3 _ + sgL 3 * A 0 3 * Drow sgL 3 _ = _
 rw [a9L, a9L, a9L, a9L, b5q, b7E, c0a, c1B, a8k]
 show 0 + 1 * A 0 0 * M3d (A 1 1) (A 1 2) (A 1 3) (A 2 1) (A 2 2) (A 2 3) (A 3 1) (A 3 2) (A 3 3) + -1 * A 0 1 * M3d (A 1 0) (A 1 2) (A 1 3) (A 2 0) (A 2 2) (A 2 3) (A 3 0) (A 3 2) (A 3 3) + 1 * A 0 2 * M3d (A 1 0) (A 1 1) (A 1 3) (A 2 0) (A 2 1) (A 2 3) (A 3 0) (A 3 1) (A 3 3) + -1 * A 0 3 * M3d (A 1 0) (A 1 1) (A 1 2) (A 2 0) (A 2 1) (A 2 2) (A 3 0) (A 3 1) (A 3 2) = D4 A
 unfold D4
 generalize M3d (A 1 1) (A 1 2) (A 1 3) (A 2 1) (A 2 2) (A 2 3) (A 3 1) (A 3 2) (A 3 3) = x0
 generalize M3d (A 1 0) (A 1 2) (A 1 3) (A 2 0) (A 2 2) (A 2 3) (A 3 0) (A 3 2) (A 3 3) = x1
 generalize M3d (A 1 0) (A 1 1) (A 1 3) (A 2 0) (A 2 1) (A 2 3) (A 3 0) (A 3 1) (A 3 3) = x2
 generalize M3d (A 1 0) (A 1 1) (A 1 2) (A 2 0) (A 2 1) (A 2 2) (A 3 0) (A 3 1) (A 3 2) = x3
 grind
theorem b9r {m : Nat} (hm : m ≤ 4) (A : Nat → Nat → Lp) : Drow sgL m A = DD m A := by
 match m, hm with
 | 0, _ => rfl
 | 1, _ => exact b5i A
 | 2, _ => exact b1W A
 | 3, _ => exact a9L A
 | 4, _ => exact c1p A
theorem a9p {n : Int} {w : List Int} (h1 : 1 ≤ n) (h5 : n ≤ 5) : toL (detP n.toNat (a1Y n w)) = DD (n.toNat - 1) (AL1 n w) := by
 have hl : (a1Y n w).length = n.toNat - 1 := by unfold a1Y; rw [List.length_map, List.length_range]
 have hl2 : ∀ ps ∈ a1Y n w, ps.length = n.toNat - 1 := fun ps hp => by
  unfold a1Y at hp
  obtain ⟨r, _, rfl⟩ := List.mem_map.mp hp
  rw [List.length_map, List.length_range]
 have e : n.toNat = n.toNat - 1 + 1 := by lia
 conv => lhs; rw [e]
 rw [b4G _ _ hl hl2, b9r (by lia)]
 exact a2h (by lia) fun i j hi hj => b8C hi hj
noncomputable def RL (n : Int) (w : List Int) (i j : Nat) : Lp := BL n w (i + 1) (j + 1) - BL n w 0 (j + 1)
theorem a9I {n : Int} (h1 : 1 ≤ n) {u v : List Int} (hu : WordOK n u) (hv : WordOK n v) {i j : Nat} (hi : i < n.toNat - 1) (hj : j < n.toNat - 1) : RL n (u ++ v) i j = mmul (n.toNat - 1) (RL n u) (RL n v) i j := by
 obtain ⟨m, hm⟩ : ∃ m, n.toNat = m + 1 := ⟨n.toNat - 1, by lia⟩
 unfold RL mmul
 rw [b1Z hu hv (by lia : i + 1 < n.toNat) (by lia : j + 1 < n.toNat), b1Z hu hv (by lia : 0 < n.toNat) (by lia : j + 1 < n.toNat)]
 have r1 := b1Y hu (i := i + 1) (by lia)
 have r0 := b1Y hu (i := 0) (by lia)
 rw [hm, a6i] at r1 r0
 rw [hm, Nat.add_sub_cancel, a6i, a6i]
 have e : SR m (fun k => RL n u i k * RL n v k j) = SR m (fun k => BL n u (i + 1) (k + 1) * BL n v (k + 1) (j + 1)) - SR m (fun k => BL n u 0 (k + 1) * BL n v (k + 1) (j + 1)) - (SR m (fun k => BL n u (i + 1) (k + 1)) - SR m (fun k => BL n u 0 (k + 1))) * BL n v 0 (j + 1) := by
  rw [← a4w, ← a4w, ← b9f, ← a4w]
  exact a1E fun k _ => by unfold RL; grind
 show _ = SR m (fun k => RL n u i k * RL n v k j)
 rw [e]
 generalize SR m (fun k => BL n u (i + 1) (k + 1) * BL n v (k + 1) (j + 1)) = X
 generalize SR m (fun k => BL n u 0 (k + 1) * BL n v (k + 1) (j + 1)) = Y
 generalize SR m (fun k => BL n u (i + 1) (k + 1)) = s1 at r1 ⊢
 generalize SR m (fun k => BL n u 0 (k + 1)) = s0 at r0 ⊢
 grind
theorem b7h {n : Int} {i j : Nat} (hi : i < n.toNat - 1) (hj : j < n.toNat - 1) : RL n [] i j = if i = j then 1 else 0 := by
 unfold RL
 rw [a5g (by lia) (by lia), a5g (by lia) (by lia), if_neg (by lia : ¬ 0 = j + 1)]
 by_cases c : i = j
 ·rw [if_pos c, if_pos (by lia)]; grind
 ·rw [if_neg c, if_neg (by lia)]; grind
theorem b5e {n : Int} {w v : List Int} (h : RelW n w v) (hw : WordOK n w) (hv : WordOK n v) (i j : Nat) : RL n w i j = RL n v i j := by
 unfold RL; rw [b7l h hw hv, b7l h hw hv]
noncomputable def EL (n : Int) (w : List Int) (i j : Nat) : Lp := (if i = j then 1 else 0) - RL n w i j
theorem b9q {n : Int} (h1 : 1 ≤ n) (h4 : n ≤ 4) {w : List Int} (hw : WordOK n w) : DD (n.toNat - 1) (EL n w) = SR n.toNat tL * DD (n.toNat - 1) (AL1 n w) := by
 obtain ⟨m, hm⟩ : ∃ m, n.toNat = m + 1 := ⟨n.toNat - 1, by lia⟩
 have t0 : tL 0 = (1 : Lp) := rfl
 rw [hm, Nat.add_sub_cancel, a6i, t0]
 refine b9t (by lia) (fun k => tL (k + 1)) _ _ fun i j hi hj => ?_
 have hc := b7m hw (k := j + 1) (by lia)
 rw [hm, a6i, t0] at hc
 have e : SR m (fun k => tL (k + 1) * AL1 n w k j) = tL (j + 1) - SR m (fun k => tL (k + 1) * BL n w (k + 1) (j + 1)) := by
  have e1 : SR m (fun k => (if j = k then 1 else 0) * tL (k + 1)) = tL (j + 1) := a9H hj (fun k => tL (k + 1))
  rw [← e1, ← a4w]
  refine a1E fun k _ => ?_
  unfold AL1
  by_cases c : j = k
  ·rw [if_pos c, if_pos c.symm]; grind
  ·rw [if_neg c, if_neg (fun z => c z.symm)]; grind
 rw [e]
 unfold EL RL AL1
 generalize SR m (fun k => tL (k + 1) * BL n w (k + 1) (j + 1)) = X at hc ⊢
 grind
theorem a6k {n : Int} (h1 : 1 ≤ n) (h4 : n ≤ 4) {u v : List Int} (hu : WordOK n u) (hv : WordOK n v) : DD (n.toNat - 1) (RL n (u ++ v)) = DD (n.toNat - 1) (RL n u) * DD (n.toNat - 1) (RL n v) := by
 rw [← b1X (by lia)]
 exact a2h (by lia) fun i j hi hj => a9I h1 hu hv hi hj
noncomputable def idF (i j : Nat) : Lp := if i = j then 1 else 0
theorem c2l {m : Nat} (hm : m ≤ 3) : DD m idF = 1 := by
 match m, hm with
 | 0, _ => rfl
 | 1, _ => rfl
 | 2, _ => show M2d (1 : Lp) 0 0 1 = 1; unfold M2d; grind
 | 3, _ => show M3d (1 : Lp) 0 0 0 1 0 0 0 1 = 1; unfold M3d; grind
theorem a6j {n : Int} (h1 : 1 ≤ n) (h4 : n ≤ 4) : DD (n.toNat - 1) (RL n []) = 1 := by
 rw [← c2l (show n.toNat - 1 ≤ 3 by lia)]
 exact a2h (by lia) fun i j hi hj => b7h hi hj
theorem b1n {m : Nat} {A : Nat → Nat → Lp} {i j : Nat} (hi : i < m) (hj : j < m) : mmul m A idF i j = A i j := by
 unfold mmul
 have := a9H hj (fun k => A i k)
 rw [← this]
 refine a1E fun k _ => ?_
 unfold idF
 by_cases c : j = k
 ·rw [if_pos c, if_pos c.symm]; grind
 ·rw [if_neg c, if_neg (fun z => c z.symm)]; grind
theorem b2R {n : Int} (h1 : 1 ≤ n) (h4 : n ≤ 4) {u v : List Int} (hu : WordOK n u) (hv : WordOK n v) : DD (n.toNat - 1) (EL n (u ++ v)) = DD (n.toNat - 1) (EL n (v ++ u)) := by
 -- (1 - UV) U = U (1 - VU), and U can be taken away
 have hm : n.toNat - 1 ≤ 3 := by lia
 have e1 : DD (n.toNat - 1) (EL n (u ++ v)) * DD (n.toNat - 1) (RL n u) = DD (n.toNat - 1) (RL n u) * DD (n.toNat - 1) (EL n (v ++ u)) := by
  rw [← b1X hm, ← b1X hm]
  refine a2h (by lia) fun i j hi hj => ?_
  have a1 : mmul (n.toNat - 1) (RL n (u ++ v)) (RL n u) i j = RL n (u ++ v ++ u) i j := (a9I h1 (hu.append hv) hu hi hj).symm
  have a2 : mmul (n.toNat - 1) (RL n u) (RL n (v ++ u)) i j = RL n (u ++ (v ++ u)) i j := (a9I h1 hu (hv.append hu) hi hj).symm
  rw [← List.append_assoc] at a2
  have b1 : mmul (n.toNat - 1) (EL n (u ++ v)) (RL n u) i j = RL n u i j - RL n (u ++ v ++ u) i j := by
   rw [← a1]
   unfold mmul
   rw [← a9H hi (fun k => RL n u k j), ← a4w]
   exact a1E fun k _ => by unfold EL; grind
  have b2 : mmul (n.toNat - 1) (RL n u) (EL n (v ++ u)) i j = RL n u i j - RL n (u ++ v ++ u) i j := by
   rw [← a2]
   have := b1n (A := RL n u) hi hj
   rw [← this]
   unfold mmul
   rw [← a4w]
   exact a1E fun k _ => by unfold EL idF; grind
  rw [b1, b2]
 have hinv : DD (n.toNat - 1) (RL n u) * DD (n.toNat - 1) (RL n (a0X u)) = 1 := by
  rw [← a6k h1 h4 hu hu.contr, ← a6j h1 h4]
  have r := RelW.bk hu.contr
  rw [a5f] at r
  exact a2h (by lia) fun i j _ _ => b5e r (hu.append hu.contr) .nil i j
 generalize DD (n.toNat - 1) (EL n (u ++ v)) = x at e1 ⊢
 generalize DD (n.toNat - 1) (EL n (v ++ u)) = y at e1 ⊢
 generalize DD (n.toNat - 1) (RL n u) = d at e1 hinv
 generalize DD (n.toNat - 1) (RL n (a0X u)) = d' at hinv
 grind
theorem b0N {n : Int} (h1 : 1 ≤ n) (h4 : n ≤ 4) {w : List Int} (hw : WordOK n w) : DD (n.toNat - 1) (EL n (a0X w)) = sgN (n.toNat - 1) * DD (n.toNat - 1) (RL n (a0X w)) * DD (n.toNat - 1) (EL n w) := by
 have hm : n.toNat - 1 ≤ 3 := by lia
 have r := RelW.bk hw
 -- 1 - W' = -(W' (1 - W))
 have e : DD (n.toNat - 1) (EL n (a0X w)) = DD (n.toNat - 1) (fun i j => -(mmul (n.toNat - 1) (RL n (a0X w)) (EL n w) i j)) := by
  refine a2h (by lia) fun i j hi hj => ?_
  have a1 : mmul (n.toNat - 1) (RL n (a0X w)) (RL n w) i j = if i = j then 1 else 0 := by
   rw [← a9I h1 hw.contr hw hi hj, b5e r (hw.contr.append hw) .nil, b7h hi hj]
  have b2 : mmul (n.toNat - 1) (RL n (a0X w)) (EL n w) i j = RL n (a0X w) i j - if i = j then 1 else 0 := by
   rw [← a1]
   have := b1n (A := RL n (a0X w)) hi hj
   conv => rhs; rw [← this]
   unfold mmul
   rw [← a4w]
   exact a1E fun k _ => by unfold EL idF; grind
  rw [b2]
  unfold EL
  split <;> grind
 rw [e, c1r hm, b1X hm]
 grind
noncomputable def UnL (u : Lp) : Prop := ∃ k s : Int, (s = 1 ∨ s = -1) ∧ u = toL [(k, s)]
theorem a5t (k l s t : Int) : toL [(k, s)] * toL [(l, t)] = toL [(k + l, s * t)] := by
 rw [← a1Z]
 refine b3b fun c => ?_
 unfold a0K
 rw [a0F]
 rfl
theorem UnL.one : UnL 1 := ⟨0, 1, .inl rfl, rfl⟩
theorem UnL.neg1 : UnL (-1) := ⟨0, -1, .inr rfl, a3B.symm⟩
theorem UnL.tL (k : Nat) : UnL (tL k) := ⟨k, 1, .inl rfl, rfl⟩
theorem UnL.mul {u v : Lp} (h : UnL u) (g : UnL v) : UnL (u * v) := by
 obtain ⟨k, s, hs, rfl⟩ := h
 obtain ⟨l, t, ht, rfl⟩ := g
 refine ⟨k + l, s * t, ?_, a5t ..⟩
 rcases hs with rfl | rfl <;> rcases ht with rfl | rfl <;> decide
theorem UnL.inv {u : Lp} (h : UnL u) : ∃ v, UnL v ∧ v * u = 1 := by
 obtain ⟨k, s, hs, rfl⟩ := h
 refine ⟨toL [(-k, s)], ⟨-k, s, hs, rfl⟩, ?_⟩
 rw [a5t, show -k + k = 0 by lia, show s * s = 1 by rcases hs with rfl | rfl <;> rfl]; rfl
theorem UnL.cancel {u x y : Lp} (h : UnL u) (e : u * x = u * y) : x = y := by
 obtain ⟨v, _, hv⟩ := h.inv
 have : v * (u * x) = v * (u * y) := by rw [e]
 grind
theorem UnL.sgN : ∀ m, UnL (sgN m)
 | 0 => .one
 | 1 => .neg1
 | 2 => .one
 | _ + 3 => .neg1
theorem UnL.vP (k : Nat) : ∀ m, UnL (vP (fun i => L2.tL (i + k)) m)
 | 0 => .one
 | 1 => .tL _
 | 2 => (UnL.tL _).mul (.tL _)
 | _ + 3 => ((UnL.tL _).mul (.tL _)).mul (.tL _)
theorem co_t (k : Nat) (z : Lp) (c : Int) : co (L2.tL k * z).1 c = co z.1 (c - k) := by
 rw [a1n]
 unfold L2.tL
 rw [cv_L]
 show 1 * co z.1 (c - k) + 0 = _
 lia
theorem b6u (z : Lp) (c : Int) : ∀ m, co (SR m L2.tL * z).1 c = SuN m fun k => co z.1 (c - k)
 | 0 => by
   show co ((0 : Lp) * z).1 c = 0
   have e : (0 : Lp) * z = 0 := by grind
   rw [e]
   show co (sgU 0).1 c = 0
   rw [a7p]
   show co (toL []).1 c = 0
   rw [co_L]; rfl
 | m + 1 => by
   show co ((SR m L2.tL + L2.tL m) * z).1 c = SuN m (fun k => co z.1 (c - k)) + co z.1 (c - m)
   have e : (SR m L2.tL + L2.tL m) * z = SR m L2.tL * z + L2.tL m * z := by grind
   rw [e, a1z, b6u z c m, co_t]
theorem b1V {m : Nat} {g : Nat → Int} (h : ∀ k, 1 ≤ k → g k = 0) : SuN (m + 1) g = g 0 := by
 induction m with
 | zero => show 0 + g 0 = g 0; lia
 | succ m ih => show SuN (m + 1) g + g (m + 1) = g 0; rw [ih, h (m + 1) (by lia)]; lia
theorem b9e {m : Nat} (z : Lp) (h : SR (m + 1) L2.tL * z = 0) : z = 0 := by
 obtain ⟨p, hp⟩ := z
 cases p with
 | nil => exact Subtype.ext (by show [] = (sgU 0).1; rw [a7p]; rfl)
 | cons x p =>
   obtain ⟨p1, p2⟩ := List.pairwise_cons.mp hp.1
   have hz : co (SR (m + 1) L2.tL * ⟨x :: p, hp⟩ : Lp).1 x.1 = 0 := by
    rw [h]
    show co (sgU 0).1 x.1 = 0
    rw [a7p]
    show co (toL []).1 x.1 = 0
    rw [co_L]; rfl
   rw [b6u, b1V fun k hk => a1m fun y hy => ?_] at hz
   ·have : co (x :: p) x.1 = x.2 := a2z hp.1 (.head _)
    rw [show x.1 - ((0 : Nat) : Int) = x.1 by lia, this] at hz
    exact absurd hz (hp.2 x (.head _))
   ·rcases List.mem_cons.mp hy with e | e
    ·rw [e]; lia
    ·have := p1 y e; lia
theorem b5d {n : Nat} (hn : 1 ≤ n) {x y : Lp} (h : SR n L2.tL * x = SR n L2.tL * y) : x = y := by
 obtain ⟨m, rfl⟩ : ∃ m, n = m + 1 := ⟨n - 1, by lia⟩
 have := b9e (x - y) (m := m) (by grind)
 grind
theorem a8a {x : Int × Int} {p : Po} (c : Int) : co (a7S (x :: p)) c = (if 0 < x.2 then 1 else -1) * co (x :: p) (c + x.1) := by
 show co (a0K (x :: p) [(-x.1, if 0 < x.2 then 1 else -1)]) c = _
 unfold a0K
 rw [a0F, a3Z, a5Z]
 show (if 0 < x.2 then 1 else -1) * co (x :: p) (c - -x.1) + 0 = _
 rw [show c - -x.1 = c + x.1 by lia]; lia
theorem a2T : ∀ p : Po, CanP (a7S p)
 | [] => ⟨.nil, fun _ z => absurd z List.not_mem_nil⟩
 | x :: p => a0z _
theorem b1L (k s c : Int) : ∀ q : Po, co (q.map fun z => (z.1 + k, s * z.2)) c = s * co q (c - k)
 | [] => by show (0 : Int) = s * 0; lia
 | z :: q => by
   show (if z.1 + k = c then s * z.2 else 0) + co (q.map fun z => (z.1 + k, s * z.2)) c = s * ((if z.1 = c - k then z.2 else 0) + co q (c - k))
   rw [b1L k s c q, Int.mul_add]
   by_cases h : z.1 + k = c
   ·rw [if_pos h, if_pos (by lia)]
   ·rw [if_neg h, if_neg (by lia), Int.mul_zero]
theorem b2E {p q : Po} (hp : CanP p) (hq : CanP q) {u : Lp} (hu : UnL u) (h : toL p = u * toL q) : a7S p = a7S q := by
 obtain ⟨k, s, hs, rfl⟩ := hu
 have hco : ∀ c, co p c = s * co q (c - k) := fun c => by
  have e := congrArg (fun r : Lp => co r.1 c) h
  rw [co_L, a1n, cv_L] at e
  rw [e]
  show s * co (toL q).1 (c - k) + 0 = _
  rw [co_L]; lia
 have hs0 : s ≠ 0 := by rcases hs with rfl | rfl <;> decide
 have e : p = q.map fun z => (z.1 + k, s * z.2) := by
  refine a1x hp ⟨List.pairwise_map.mpr (hq.1.imp fun h => by lia), fun x hx => ?_⟩ fun c => by rw [hco, b1L]
  obtain ⟨z, hz, rfl⟩ := List.mem_map.mp hx
  exact Int.mul_ne_zero hs0 (hq.2 z hz)
 cases q with
 | nil => rw [e]; rfl
 | cons y q =>
   refine a1x (a2T _) (a2T _) fun c => ?_
   have hy := hq.2 y (.head _)
   rw [e, List.map_cons, a8a, a8a]
   have e2 := b1L k s (c + (y.1 + k)) (y :: q)
   rw [List.map_cons] at e2
   dsimp only at e2 ⊢
   rw [e2, show c + (y.1 + k) - k = c + y.1 by lia]
   rcases hs with rfl | rfl
   ·rw [Int.one_mul, Int.one_mul]
   ·by_cases c0 : 0 < y.2
    ·rw [if_pos c0, if_neg (by lia)]; lia
    ·rw [if_neg c0, if_pos (by lia)]; lia
theorem a9u {n m : Int} {w v : List Int} (hw : PlOK n w) (hv : PlOK m v) (n5 : n ≤ 5) (m5 : m ≤ 5) {u : Lp} (hu : UnL u) (h : DD (n.toNat - 1) (AL1 n w) = u * DD (m.toNat - 1) (AL1 m v)) : a0s n w = a0s m v := by
 unfold a0s
 have c1 := (a1O _ (a1J hw)).1
 have c2 := (a1O _ (a1J hv)).1
 have n1 := hw.1
 have m1 := hv.1
 rw [show n.toNat - 1 + 1 = n.toNat by lia] at c1
 rw [show m.toNat - 1 + 1 = m.toNat by lia] at c2
 exact b2E c1 c2 hu (by rw [a9p n1 n5, a9p m1 m5, h])
theorem b4S {n : Int} {w v : List Int} (hw : PlOK n w) (hv : PlOK n v) (n4 : n ≤ 4) {u : Lp} (hu : UnL u) (h : DD (n.toNat - 1) (EL n w) = u * DD (n.toNat - 1) (EL n v)) : a0s n w = a0s n v := by
 refine a9u hw hv (by lia) (by lia) hu (b5d (n := n.toNat) (by have := hw.1; lia) ?_)
 rw [← b9q hw.1 n4 hw.2.2.2, h, b9q hv.1 n4 hv.2.2.2]
 grind
theorem b7k {n : Int} {w v : List Int} (h : RelW n w v) (hw : WordOK n w) (hv : WordOK n v) (m : Nat) (hm : m ≤ 4) : DD m (EL n w) = DD m (EL n v) := a2h hm fun i j _ _ => by unfold EL; rw [b5e h hw hv]
theorem b4R {n : Int} {w : List Int} (h : PlOK n w) (h2 : PlOK n (w.map (a3m n))) (n4 : n ≤ 4) : a0s n (w.map (a3m n)) = a0s n w := by
 by_cases c : 2 ≤ n
 ·have ht := b9z c n4
  have hw := h.2.2.2
  have hf := h2.2.2.2
  have r := b6H c (by lia) ht hw
  have e1 : RelW n (twF n ++ (w ++ a0X (twF n))) (w.map (a3m n)) := by
   have a := r.rt ht.contr
   have b : RelW n (w.map (a3m n) ++ twF n ++ a0X (twF n)) (w.map (a3m n)) := by
    rw [List.append_assoc]
    have c := RelW.bk ht.contr
    rw [a5f] at c
    have d := RelW.lf hf c
    rwa [List.append_nil] at d
   rw [← List.append_assoc]
   exact a.trans b
  have e2 : RelW n (w ++ a0X (twF n) ++ twF n) w := by
   rw [List.append_assoc]
   have d := RelW.lf hw (RelW.bk ht)
   rwa [List.append_nil] at d
  have k := b2R h.1 n4 ht (hw.append ht.contr)
  rw [b7k e1 (ht.append (hw.append ht.contr)) hf _ (by lia), b7k e2 ((hw.append ht.contr).append ht) hw _ (by lia)] at k
  exact b4S h2 h n4 .one (by rw [k]; grind)
 ·have : w = [] := by
   cases w with
   | nil => rfl
   | cons l w => have := h.2.2.2 l (.head _); have := this.1; have := (h.2.2.2 l (.head _)).2; lia
  subst this; rfl
noncomputable def letA : List (Int × Int) := [(2, 1), (3, 1), (3, 2), (4, 1), (4, 2), (4, 3)]
theorem a7J {n l : Int} (h : LetOK n l) (n4 : n ≤ 4) : (n, (l.natAbs : Int)) ∈ letA := by
 obtain ⟨a, b⟩ := h
 have hn : n = 2 ∨ n = 3 ∨ n = 4 := by lia
 generalize (l.natAbs : Int) = k at a b
 have hk : k = 1 ∨ k = 2 ∨ k = 3 := by lia
 rcases hn with rfl | rfl | rfl <;> rcases hk with rfl | rfl | rfl <;> first | decide | lia
theorem b1p : ∀ x ∈ letA, (DD (x.1.toNat - 1) (RL x.1 [x.2])).1 = [(1, -1)] ∧ (DD (x.1.toNat - 1) (RL x.1 [-x.2])).1 = [(-1, -1)] := by decide +kernel
theorem b2J {n l : Int} (h : LetOK n l) (n4 : n ≤ 4) : UnL (DD (n.toNat - 1) (RL n [l])) := by
 obtain ⟨a, b⟩ := b1p _ (a7J h n4)
 dsimp only at a b
 by_cases c : 0 < l
 ·rw [show (l.natAbs : Int) = l by lia] at a
  exact ⟨1, -1, .inr rfl, Subtype.ext (a.trans rfl)⟩
 ·rw [show -(l.natAbs : Int) = l by lia] at b
  exact ⟨-1, -1, .inr rfl, Subtype.ext (b.trans rfl)⟩
theorem b1E {n : Int} (n1 : 1 ≤ n) (n4 : n ≤ 4) : ∀ {w : List Int}, WordOK n w → UnL (DD (n.toNat - 1) (RL n w))
 | [], _ => by rw [a6j n1 n4]; exact .one
 | l :: w, hw => by
   have hl : WordOK n [l] := a2t (hw l (.head _))
   have hw' : WordOK n w := fun x hx => hw x (.tail _ hx)
   rw [show l :: w = [l] ++ w from rfl, a6k n1 n4 hl hw']
   exact (b2J (hw l (.head _)) n4).mul (b1E n1 n4 hw')
theorem b2L {n : Int} {w : List Int} (h : PlOK n w) (h2 : PlOK n (a0X w)) (n4 : n ≤ 4) : a0s n (a0X w) = a0s n w :=
 b4S h2 h n4 ((UnL.sgN _).mul (b1E h.1 n4 h2.2.2.2)) (b0N h.1 n4 h.2.2.2)
theorem b3Q : ∀ x ∈ letA, ∀ i ∈ List.range x.1.toNat, ∀ j ∈ List.range x.1.toNat, (L2.tL i * BL x.1 [x.2] i j).1 = (L2.tL j * BL x.1 [x.2] j i).1 ∧ (L2.tL i * BL x.1 [-x.2] i j).1 = (L2.tL j * BL x.1 [-x.2] j i).1 := by decide +kernel
theorem a9M {n l : Int} (h : LetOK n l) (n4 : n ≤ 4) {i j : Nat} (hi : i < n.toNat) (hj : j < n.toNat) : L2.tL i * BL n [l] i j = L2.tL j * BL n [l] j i := by
 obtain ⟨a, b⟩ := b3Q _ (a7J h n4) i (List.mem_range.mpr hi) j (List.mem_range.mpr hj)
 dsimp only at a b
 by_cases c : 0 < l
 ·rw [show (l.natAbs : Int) = l by lia] at a; exact Subtype.ext a
 ·rw [show -(l.natAbs : Int) = l by lia] at b; exact Subtype.ext b
theorem a8q {n : Int} (n1 : 1 ≤ n) (n4 : n ≤ 4) : ∀ {w : List Int}, WordOK n w → ∀ {i j : Nat}, i < n.toNat → j < n.toNat → L2.tL i * BL n w.reverse i j = L2.tL j * BL n w j i
 | [], _, i, j, hi, hj => by
   show L2.tL i * BL n [] i j = _
   rw [a5g hi hj, a5g hj hi]
   by_cases c : i = j
   ·rw [c]
   ·rw [if_neg c, if_neg (fun z => c z.symm)]; grind
 | l :: w, hw, i, j, hi, hj => by
   have hl := hw l (.head _)
   have hl1 : WordOK n [l] := a2t hl
   have hw' : WordOK n w := fun x hx => hw x (.tail _ hx)
   have hr : WordOK n w.reverse := fun x hx => hw' x (List.mem_reverse.mp hx)
   rw [List.reverse_cons, b1Z hr hl1 hi hj, show l :: w = [l] ++ w from rfl, b1Z hl1 hw' hj hi, ← b7g, ← b7g]
   refine a1E fun k hk => ?_
   have a := a8q n1 n4 hw' hi hk
   have b := a9M hl n4 hk hj
   grind
theorem b4Q {n : Int} {w : List Int} (h : PlOK n w) (h2 : PlOK n w.reverse) (n4 : n ≤ 4) : a0s n w.reverse = a0s n w := by
 refine a9u h2 h (by lia) (by lia) .one ?_
 have e : DD (n.toNat - 1) (AL1 n w.reverse) = DD (n.toNat - 1) (AL1 n w) := by
  refine (UnL.vP 1 (n.toNat - 1)).cancel (b6D (by lia) (fun i => L2.tL (i + 1)) _ _ fun i j hi hj => ?_)
  have := a8q h.1 n4 h.2.2.2 (i := i + 1) (j := j + 1) (by lia) (by lia)
  unfold AL1
  by_cases c : i = j
  ·subst c
   rw [if_pos rfl]; grind
  ·rw [if_neg c, if_neg (fun z => c z.symm)]; grind
 rw [e]; grind
theorem a8S (w : List Int) : w.map (fun l => -l) = a0X w.reverse := by
 unfold a0X
 rw [List.reverse_reverse]
theorem b0G {n : Int} {w : List Int} (h : PlOK n w) (h2 : PlOK n (w.map fun l => -l)) (n4 : n ≤ 4) : a0s n (w.map fun l => -l) = a0s n w := by
 have hr : PlOK n w.reverse := ⟨h.1, h.2.1, by rw [List.length_reverse]; exact h.2.2.1, fun x hx => h.2.2.2 x (List.mem_reverse.mp hx)⟩
 rw [a8S] at h2 ⊢
 rw [b2L hr h2 n4, b4Q h hr n4]
theorem b5k {n : Int} {w : List Int} (hw : WordOK n w) {i : Nat} (hi : i < n.toNat) : ((tabP n w).getD i []).length = n.toNat := by
 have h := a0P hw
 refine (h.2 _ ?_).1
 rw [List.getD_eq_getElem?_getD, List.getElem?_eq_getElem (by rw [h.1]; exact hi)]; exact List.getElem_mem _
theorem a8j {n : Int} {w : List Int} {l : Int} (hw : WordOK n w) (hl : LetOK n l) {k : Nat} (hk : l.natAbs = k + 1) {i : Nat} (hi : i < n.toNat) (j : Nat) : BL n (w ++ [l]) i j = if j = k then (if 0 < l then BL n w i k * toL lupP + BL n w i (k + 1) else BL n w i (k + 1) * toL a4X) else if j = k + 1 then (if 0 < l then BL n w i k * toL upP else BL n w i k + BL n w i (k + 1) * toL a3N) else BL n w i j := by
 have hr := b5k hw hi
 have h1 := (a0P hw).1
 have hkn : k + 1 < n.toNat := by obtain ⟨a, b⟩ := hl; lia
 unfold BL
 have e : (tabP n (w ++ [l])).getD i [] = wlP ((tabP n w).getD i []) l := by
  rw [a8r, List.getD_eq_getElem?_getD, List.getElem?_map, List.getElem?_eq_getElem (by lia : i < (tabP n w).length), List.getD_eq_getElem?_getD, List.getElem?_eq_getElem (by lia : i < (tabP n w).length)]; rfl
 rw [e]
 generalize (tabP n w).getD i [] = ps at hr
 rw [b2S hk (by rw [hr]; exact hkn), getD_set (by rw [List.length_set, hr]; exact hkn), getD_set (by rw [hr]; lia)]
 by_cases c1 : j = k
 ·subst c1
  rw [if_neg (by lia), if_pos rfl, if_pos rfl]
  unfold wl1
  split
  ·rw [a4A, a1Z]
  ·rw [a1Z]
 ·rw [if_neg c1, if_neg c1]
  by_cases c2 : j = k + 1
  ·rw [if_pos c2, if_pos c2]
   unfold wl2
   split
   ·rw [a1Z]
   ·rw [a4A, a1Z]
  ·rw [if_neg c2, if_neg c2]
theorem a7m {P : List Int → Prop} (h0 : P []) (h1 : ∀ w l, P w → P (w ++ [l])) : ∀ w, P w := fun w => by
 have : ∀ k (w : List Int), w.length = k → P w := fun k => by
  induction k with
  | zero => intro w hw; obtain rfl := List.eq_nil_of_length_eq_zero hw; exact h0
  | succ k ih =>
    intro w hw
    have hne : w ≠ [] := fun z => by rw [z] at hw; cases hw
    obtain ⟨A, y, rfl⟩ := b7B hne
    exact h1 A y (ih A (by rw [List.length_append, List.length_singleton] at hw; lia))
 exact this _ w rfl
theorem b6F : toL lupP = 1 - toL upP := by
 have e : toL lupP = toL (addP [(0, 1)] [(1, -1)]) := rfl
 rw [e, a4A]
 have e2 : toL [(1, -1)] = toL [(0, -1)] * toL upP := by rw [show upP = [(1, 1)] from rfl, a5t]; rfl
 rw [e2, show toL [(0, -1)] = (-1 : Lp) from a3B, show toL [(0, 1)] = (1 : Lp) from rfl]
 grind
theorem a6V : toL a3N = 1 - toL a4X := by
 have e : toL a3N = toL (addP [(-1, -1)] [(0, 1)]) := rfl
 rw [e, a4A]
 have e2 : toL [(-1, -1)] = toL [(0, -1)] * toL a4X := by rw [show a4X = [(-1, 1)] from rfl, a5t]; rfl
 rw [e2, show toL [(0, -1)] = (-1 : Lp) from a3B, show toL [(0, 1)] = (1 : Lp) from rfl]
 grind
noncomputable def evP (g : Int → Int) : Po → Int
 | [] => 0
 | x :: r => x.2 * g x.1 + evP g r
theorem a4V (g : Int → Int) : ∀ p q : Po, evP g (p ++ q) = evP g p + evP g q
 | [], q => by show evP g q = 0 + evP g q; lia
 | x :: p, q => by show x.2 * g x.1 + evP g (p ++ q) = x.2 * g x.1 + evP g p + evP g q; rw [a4V g p q]; lia
theorem b1z (g : Int → Int) (k c : Int) : ∀ p : Po, evP g (putP k c p) = c * g k + evP g p
 | [] => by
   show evP g (if c = 0 then [] else [(k, c)]) = c * g k + 0
   by_cases h : c = 0
   ·rw [if_pos h, h]; show (0 : Int) = 0 * g k + 0; lia
   ·rw [if_neg h]; rfl
 | x :: r => by
   show evP g (if k < x.1 then (if c = 0 then x :: r else (k, c) :: x :: r) else if k = x.1 then (if x.2 + c = 0 then r else (k, x.2 + c) :: r) else x :: putP k c r) = c * g k + (x.2 * g x.1 + evP g r)
   by_cases h1 : k < x.1
   ·rw [if_pos h1]
    by_cases h : c = 0
    ·rw [if_pos h, h]; show x.2 * g x.1 + evP g r = _; lia
    ·rw [if_neg h]; rfl
   ·rw [if_neg h1]
    by_cases h2 : k = x.1
    ·rw [if_pos h2, h2]
     have e : (x.2 + c) * g x.1 = x.2 * g x.1 + c * g x.1 := Int.add_mul ..
     by_cases h : x.2 + c = 0
     ·rw [if_pos h]
      rw [h, Int.zero_mul] at e
      lia
     ·rw [if_neg h]
      show (x.2 + c) * g x.1 + evP g r = _
      lia
    ·rw [if_neg h2]
     show x.2 * g x.1 + evP g (putP k c r) = _
     rw [b1z g k c r]; lia
theorem a5w (g : Int → Int) : ∀ p : Po, evP g (norm p) = evP g p
 | [] => rfl
 | x :: r => by show evP g (putP x.1 x.2 (norm r)) = x.2 * g x.1 + evP g r; rw [b1z, a5w g r]
theorem b6X (g : Int → Int) (hg : ∀ a b, g (a + b) = g a * g b) (x : Int × Int) : ∀ q : Po, evP g (q.map fun y => (x.1 + y.1, x.2 * y.2)) = x.2 * g x.1 * evP g q
 | [] => by show (0 : Int) = _ * 0; lia
 | y :: q => by
   show x.2 * y.2 * g (x.1 + y.1) + evP g (q.map fun y => (x.1 + y.1, x.2 * y.2)) = x.2 * g x.1 * (y.2 * g y.1 + evP g q)
   rw [b6X g hg x q, hg, Int.mul_add]
   congr 1
   grind
theorem b4u (g : Int → Int) (hg : ∀ a b, g (a + b) = g a * g b) (q : Po) : ∀ p : Po, evP g (rawM p q) = evP g p * evP g q
 | [] => by show (0 : Int) = 0 * _; lia
 | x :: p => by
   unfold rawM
   rw [List.flatMap_cons, a4V, b6X g hg]
   have := b4u g hg q p
   unfold rawM at this
   rw [this]
   show _ = (x.2 * g x.1 + evP g p) * evP g q
   grind
noncomputable def evL (g : Int → Int) (x : Lp) : Int := evP g x.1
theorem a4q (g : Int → Int) (p : Po) : evL g (toL p) = evP g p := a5w g p
structure Mg (g : Int → Int) : Prop where
 m : ∀ a b, g (a + b) = g a * g b
 z : g 0 = 1
theorem a9n {g : Int → Int} (x y : Lp) : evL g (x + y) = evL g x + evL g y := by
 show evL g (toL (addP x.1 y.1)) = _
 rw [a4q]
 unfold addP
 rw [a5w, a4V]; rfl
theorem a3P {g : Int → Int} (h : Mg g) (x y : Lp) : evL g (x * y) = evL g x * evL g y := by
 show evL g (toL (a0K x.1 y.1)) = _
 rw [a4q]
 unfold a0K
 rw [a5w, b4u g h.m]; rfl
theorem b4s {g : Int → Int} (h : Mg g) (s : Int) : evL g (sgU s) = s := by
 unfold sgU
 rw [a4q]
 show s * g 0 + 0 = s
 rw [h.z]; lia
theorem b4t {g : Int → Int} (h : Mg g) : evL g 1 = 1 := b4s h 1
theorem b4r {g : Int → Int} (h : Mg g) : evL g 0 = 0 := b4s h 0
theorem b1y {g : Int → Int} (h : Mg g) (x y : Lp) : evL g (x - y) = evL g x - evL g y := by
 show evL g (x + sgU (-1) * y) = _
 rw [a9n, a3P h, b4s h]; lia
theorem c0Y {g : Int → Int} (h : Mg g) (a b c d : Lp) : evL g (M2d a b c d) = M2d (evL g a) (evL g b) (evL g c) (evL g d) := by
 unfold M2d; rw [b1y h, a3P h, a3P h]
theorem b6W {g : Int → Int} (h' : Mg g) (a b c d e f g' h i : Lp) : evL g (M3d a b c d e f g' h i) = M3d (evL g a) (evL g b) (evL g c) (evL g d) (evL g e) (evL g f) (evL g g') (evL g h) (evL g i) := by
 unfold M3d; simp only [b1y h', a3P h', a9n]
theorem c2g {g : Int → Int} (h : Mg g) {m : Nat} (hm : m ≤ 4) (A : Nat → Nat → Lp) : evL g (DD m A) = DD m fun i j => evL g (A i j) := by
 match m, hm with
 | 0, _ => exact b4t h
 | 1, _ => rfl
 | 2, _ => exact c0Y h ..
 | 3, _ => exact b6W h ..
 | 4, _ =>
   show evL g (D4 A) = D4 fun i j => evL g (A i j)
   unfold D4
   simp only [b1y h, a3P h, a9n, b6W h]
theorem b8O {g : Int → Int} (h : Mg g) (hg : ∀ k, g k = 1 ∨ g k = -1) {u : Lp} (hu : UnL u) : evL g u = 1 ∨ evL g u = -1 := by
 obtain ⟨k, s, hs, rfl⟩ := hu
 rw [a4q]
 show s * g k + 0 = 1 ∨ s * g k + 0 = -1
 rcases hs with rfl | rfl <;> rcases hg k with e | e <;> rw [e] <;> decide
noncomputable def g1 (_ : Int) : Int := 1
noncomputable def gm (k : Int) : Int := if k % 2 = 0 then 1 else -1
theorem mg1 : Mg g1 := ⟨fun _ _ => rfl, rfl⟩
theorem c2e (k : Int) : g1 k = 1 ∨ g1 k = -1 := .inl rfl
theorem c2b (k : Int) : gm k = 1 ∨ gm k = -1 := by
 unfold gm; split
 ·exact .inl rfl
 ·exact .inr rfl
theorem b4v : ∀ p : Po, evP g1 p = (p.map Prod.snd).sum
 | [] => rfl
 | x :: p => by show x.2 * 1 + evP g1 p = x.2 + (p.map Prod.snd).sum; rw [b4v p]; lia
theorem b4q : ∀ p : Po, evP gm p = (p.map wtI).sum
 | [] => rfl
 | x :: p => by
   show x.2 * gm x.1 + evP gm p = wtI x + (p.map wtI).sum
   rw [b4q p]
   unfold gm wtI
   split <;> lia
theorem a9m : ∀ p : Po, evP gm p % 2 = evP g1 p % 2
 | [] => rfl
 | x :: p => by
   have := a9m p
   show (x.2 * gm x.1 + evP gm p) % 2 = (x.2 * 1 + evP g1 p) % 2
   rcases c2b x.1 with e | e <;> rw [e] <;> lia
theorem b6o (p : Po) : ∃ u, UnL u ∧ toL (a7S p) = u * toL p := by
 cases p with
 | nil => exact ⟨1, .one, by show toL [] = 1 * toL []; grind⟩
 | cons x p =>
   refine ⟨toL [(-x.1, if 0 < x.2 then 1 else -1)], ⟨_, _, ?_, rfl⟩, ?_⟩
   ·split
    ·exact .inl rfl
    ·exact .inr rfl
   ·show toL (a0K (x :: p) [(-x.1, if 0 < x.2 then 1 else -1)]) = _
    rw [a1Z]; grind
theorem b0F {n : Int} {w : List Int} (h1 : 1 ≤ n) (h5 : n ≤ 5) : ∃ u, UnL u ∧ toL (a0s n w) = u * DD (n.toNat - 1) (AL1 n w) := by
 obtain ⟨u, hu, e⟩ := b6o (detP n.toNat (a1Y n w))
 refine ⟨u, hu, ?_⟩
 unfold a0s
 rw [e, a9p h1 h5]
theorem b8P {g : Int → Int} (h : Mg g) (hg : ∀ k, g k = 1 ∨ g k = -1) {n : Int} {w : List Int} (h1 : 1 ≤ n) (h5 : n ≤ 5) : (evP g (a0s n w)).natAbs = (DD (n.toNat - 1) fun i j => evL g (AL1 n w i j)).natAbs := by
 obtain ⟨u, hu, e⟩ := b0F (w := w) h1 h5
 rw [← a4q, e, a3P h, c2g h (by lia)]
 rcases b8O h hg hu with z | z <;> rw [z]
 ·rw [Int.one_mul]
 ·rw [Int.neg_mul, Int.one_mul, Int.natAbs_neg]
theorem c1s {n : Int} {w : List Int} : WordOK n w → ∀ {i j : Nat}, i < n.toNat → j < n.toNat → evL g1 (BL n w i j) = if folL w i = j then 1 else 0 := by
 refine a7m (P := fun w => WordOK n w → ∀ {i j : Nat}, i < n.toNat → j < n.toNat → evL g1 (BL n w i j) = if folL w i = j then 1 else 0) (fun _ i j hi hj => ?_) (fun w l ih hw i j hi hj => ?_) w
 ·rw [a5g hi hj]
  show evL g1 (if i = j then 1 else 0) = if (i : Int) = j then 1 else 0
  by_cases c : i = j
  ·rw [if_pos c, if_pos (by lia)]; exact b4t mg1
  ·rw [if_neg c, if_neg (by lia)]; exact b4r mg1
 ·have hw' : WordOK n w := fun x hx => hw x (List.mem_append.mpr (.inl hx))
  have hl : LetOK n l := hw l (List.mem_append.mpr (.inr (.head _)))
  obtain ⟨k, hk⟩ : ∃ k : Nat, l.natAbs = k + 1 := ⟨l.natAbs - 1, by have := hl.1; lia⟩
  have hkn : k + 1 < n.toNat := by have := hl.2; lia
  have elu : evL g1 (toL lupP) = 0 := by rw [a4q]; rfl
  have eld : evL g1 (toL a3N) = 0 := by rw [a4q]; rfl
  have eu : evL g1 (toL upP) = 1 := by rw [a4q]; rfl
  have ed : evL g1 (toL a4X) = 1 := by rw [a4q]; rfl
  have a := ih hw' hi (j := k) (by lia)
  have b := ih hw' hi (j := k + 1) (by lia)
  have c := ih hw' hi hj
  rw [a8j hw' hl hk hi]
  have ef : folL (w ++ [l]) i = a0v (folL w i) l := by rw [folL_append]; rfl
  rw [ef]
  unfold a0v
  rw [hk]
  generalize folL w i = f at a b c ⊢
  by_cases c1 : j = k
  ·subst c1
   rw [if_pos rfl]
   have e : evL g1 (if 0 < l then BL n w i j * toL lupP + BL n w i (j + 1) else BL n w i (j + 1) * toL a4X) = evL g1 (BL n w i (j + 1)) := by
    split
    ·rw [a9n, a3P mg1, elu]; lia
    ·rw [a3P mg1, ed]; lia
   rw [e, b]
   split <;> split <;> split <;> lia
  ·rw [if_neg c1]
   by_cases c2 : j = k + 1
   ·subst c2
    rw [if_pos rfl]
    have e : evL g1 (if 0 < l then BL n w i k * toL upP else BL n w i k + BL n w i (k + 1) * toL a3N) = evL g1 (BL n w i k) := by
     split
     ·rw [a3P mg1, eu]; lia
     ·rw [a9n, a3P mg1, eld]; lia
    rw [e, a]
    split <;> split <;> split <;> lia
   ·rw [if_neg c2, c]
    split <;> split <;> split <;> lia
noncomputable def a8m (o : List Int) : Nat → Int → List Int → List Int
 | 0, _, seen => seen
 | k + 1, here, seen => if here ∈ seen then seen else a8m o k (gI o here) (seen ++ [here])
noncomputable def a6m (o : List Int) (x : List Int × Nat) (start : Int) : List Int × Nat := if start ∈ x.1 then x else (a8m o 7 start x.1, x.2 + 1)
noncomputable def cycN (o : List Int) : Nat := ((a0g o.length).foldl (a6m o) ([], 0)).2
noncomputable def perF (o : List Int) (i j : Nat) : Int := (if i = j then 1 else 0) - (if gI o ((i : Int) + 1) = (j : Int) + 1 then 1 else 0)
noncomputable def b2t (n : Nat) : Bool := (b3B (a0g n)).all fun o => decide ((DD (n - 1) (perF o)).natAbs = if cycN o = 1 then 1 else 0)
theorem a5s : b2t 1 = true ∧ b2t 2 = true ∧ b2t 3 = true ∧ b2t 4 = true := by decide +kernel
theorem b1P {n : Int} {w : List Int} (n1 : 1 ≤ n) (n4 : n ≤ 4) (hw : WordOK n w) : (evP g1 (a0s n w)).natAbs = if cycN (a1B n w) = 1 then 1 else 0 := by
 rw [b8P mg1 c2e n1 (by lia)]
 have hp := b1g hw
 have hm := a6N hp
 have e : DD (n.toNat - 1) (fun i j => evL g1 (AL1 n w i j)) = DD (n.toNat - 1) (perF (a1B n w)) := by
  refine a2h (by lia) fun i j hi hj => ?_
  unfold AL1 perF
  rw [b1y mg1, c1s hw (by lia) (by lia)]
  have e1 : evL g1 (if i = j then 1 else 0) = if i = j then 1 else 0 := by
   split
   ·exact b4t mg1
   ·exact b4r mg1
  have e2 : gI (a1B n w) ((i : Int) + 1) = folL w ((i : Int) + 1) := by
   unfold gI
   exact b0f n w hw (by lia) (by lia)
  rw [e1, e2, show ((i + 1 : Nat) : Int) = (i : Int) + 1 by lia, show ((j + 1 : Nat) : Int) = (j : Int) + 1 by lia]
 rw [e]
 have key : ∀ m : Nat, b2t m = true → n = m → (DD (n.toNat - 1) (perF (a1B n w))).natAbs = if cycN (a1B n w) = 1 then 1 else 0 := fun m h e => by
  subst e
  unfold b2t at h
  exact of_decide_eq_true (List.all_eq_true.mp h _ hm)
 rcases (show n = ((1 : Nat) : Int) ∨ n = ((2 : Nat) : Int) ∨ n = ((3 : Nat) : Int) ∨ n = ((4 : Nat) : Int) by lia) with c | c | c | c
 ·exact key 1 a5s.1 c
 ·exact key 2 a5s.2.1 c
 ·exact key 3 a5s.2.2.1 c
 ·exact key 4 a5s.2.2.2 c
theorem b2a {n : Int} {w : List Int} (n1 : 1 ≤ n) (n4 : n ≤ 4) (hw : WordOK n w) : a4y (a0s n w) % 2 = 1 ↔ cycN (a1B n w) = 1 := by
 have h1 := b1P n1 n4 hw
 have h2 := a9m (a0s n w)
 unfold a4y
 rw [← b4q]
 generalize evP gm (a0s n w) = a at h2 ⊢
 generalize evP g1 (a0s n w) = b at h1 h2
 by_cases c : cycN (a1B n w) = 1
 ·rw [if_pos c] at h1
  exact ⟨fun _ => c, fun _ => by lia⟩
 ·rw [if_neg c] at h1
  exact ⟨fun z => by lia, fun z => absurd z c⟩
theorem b9v {n : Int} {k : Nat} : ∀ {w : List Int}, WordOK n w → (∀ l ∈ w, l.natAbs ≠ k) → ∀ {i j : Nat}, i < n.toNat → j < k → k ≤ i → BL n w i j = 0 := fun {w} => by
 refine a7m (P := fun w => WordOK n w → (∀ l ∈ w, l.natAbs ≠ k) → ∀ {i j : Nat}, i < n.toNat → j < k → k ≤ i → BL n w i j = 0) (fun _ _ i j hi hj hk => ?_) (fun w l ih hw hn i j hi hj hk => ?_) w
 ·rw [a5g hi (by lia), if_neg (by lia)]
 ·have hw' : WordOK n w := fun x hx => hw x (List.mem_append.mpr (.inl hx))
  have hl : LetOK n l := hw l (List.mem_append.mpr (.inr (.head _)))
  have hn' : ∀ l ∈ w, l.natAbs ≠ k := fun x hx => hn x (List.mem_append.mpr (.inl hx))
  have hlk := hn l (List.mem_append.mpr (.inr (.head _)))
  obtain ⟨q, hq⟩ : ∃ q : Nat, l.natAbs = q + 1 := ⟨l.natAbs - 1, by have := hl.1; lia⟩
  rw [a8j hw' hl hq hi]
  have a := ih hw' hn' hi hj hk
  by_cases c1 : j = q
  ·subst c1
   have b := ih hw' hn' (j := j + 1) hi (by lia) hk
   rw [if_pos rfl, a, b]
   split <;> grind
  ·rw [if_neg c1]
   by_cases c2 : j = q + 1
   ·have b := ih hw' hn' (j := q) hi (by lia) hk
    subst c2
    rw [if_pos rfl, a, b]
    split <;> grind
   ·rw [if_neg c2]; exact a
theorem b2M {n : Int} {w : List Int} (n1 : 1 ≤ n) (n4 : n ≤ 4) (hw : PlOK n w) {k : Nat} (k1 : 1 ≤ k) (kn : k < n.toNat) (h : ∀ l ∈ w, l.natAbs ≠ k) : a0s n w = [] := by
 have z := fun {i j : Nat} (hi : i < n.toNat) (hj : j < k) (hk : k ≤ i) => b9v hw.2.2.2 h hi hj hk
 have r := fun {i : Nat} (hi : i < n.toNat) => b1Y hw.2.2.2 hi
 have e : DD (n.toNat - 1) (AL1 n w) = 0 := by
  rcases (show n = 2 ∨ n = 3 ∨ n = 4 by lia) with rfl | rfl | rfl
  ·have hk : k = 1 := by have : ((2 : Int)).toNat = 2 := rfl; lia
   subst hk
   have z10 := z (i := 1) (j := 0) (by decide) (by decide) (by decide)
   have r1 := r (i := 1) (by decide)
   rw [show ((2 : Int)).toNat = 2 from rfl, SR2] at r1
   show 1 - BL 2 w 1 1 = 0
   grind
  ·have hk : k = 1 ∨ k = 2 := by have : ((3 : Int)).toNat = 3 := rfl; lia
   have r1 := r (i := 1) (by decide)
   have r2 := r (i := 2) (by decide)
   rw [show ((3 : Int)).toNat = 3 from rfl, SR3] at r1 r2
   show M2d (1 - BL 3 w 1 1) (0 - BL 3 w 1 2) (0 - BL 3 w 2 1) (1 - BL 3 w 2 2) = 0
   unfold M2d
   rcases hk with rfl | rfl
   ·have z1 := z (i := 1) (j := 0) (by decide) (by decide) (by decide)
    have z2 := z (i := 2) (j := 0) (by decide) (by decide) (by decide)
    grind
   ·have z1 := z (i := 2) (j := 0) (by decide) (by decide) (by decide)
    have z2 := z (i := 2) (j := 1) (by decide) (by decide) (by decide)
    grind
  ·have hk : k = 1 ∨ k = 2 ∨ k = 3 := by have : ((4 : Int)).toNat = 4 := rfl; lia
   have r1 := r (i := 1) (by decide)
   have r2 := r (i := 2) (by decide)
   have r3 := r (i := 3) (by decide)
   rw [show ((4 : Int)).toNat = 4 from rfl, SR4] at r1 r2 r3
   show M3d (1 - BL 4 w 1 1) (0 - BL 4 w 1 2) (0 - BL 4 w 1 3) (0 - BL 4 w 2 1) (1 - BL 4 w 2 2) (0 - BL 4 w 2 3) (0 - BL 4 w 3 1) (0 - BL 4 w 3 2) (1 - BL 4 w 3 3) = 0
   rcases hk with rfl | rfl | rfl
   ·have z1 := z (i := 1) (j := 0) (by decide) (by decide) (by decide)
    have z2 := z (i := 2) (j := 0) (by decide) (by decide) (by decide)
    have z3 := z (i := 3) (j := 0) (by decide) (by decide) (by decide)
    clear z r
    have a1 : BL 4 w 1 1 = 1 - BL 4 w 1 2 - BL 4 w 1 3 := by grind
    have a2 : BL 4 w 2 2 = 1 - BL 4 w 2 1 - BL 4 w 2 3 := by grind
    have a3 : BL 4 w 3 3 = 1 - BL 4 w 3 1 - BL 4 w 3 2 := by grind
    rw [a1, a2, a3]
    clear r1 r2 r3 z1 z2 z3 a1 a2 a3
    unfold M3d
    grind
   ·have z20 := z (i := 2) (j := 0) (by decide) (by decide) (by decide)
    have z21 := z (i := 2) (j := 1) (by decide) (by decide) (by decide)
    have z30 := z (i := 3) (j := 0) (by decide) (by decide) (by decide)
    have z31 := z (i := 3) (j := 1) (by decide) (by decide) (by decide)
    clear z r
    have a2 : BL 4 w 2 2 = 1 - BL 4 w 2 3 := by grind
    have a3 : BL 4 w 3 3 = 1 - BL 4 w 3 2 := by grind
    rw [a2, a3, z21, z31]
    clear r1 r2 r3 z20 z21 z30 z31 a2 a3
    unfold M3d
    grind
   ·have z30 := z (i := 3) (j := 0) (by decide) (by decide) (by decide)
    have z31 := z (i := 3) (j := 1) (by decide) (by decide) (by decide)
    have z32 := z (i := 3) (j := 2) (by decide) (by decide) (by decide)
    clear z r
    have a3 : BL 4 w 3 3 = 1 := by grind
    rw [a3, z31, z32]
    clear r1 r2 r3 z30 z31 z32 a3
    unfold M3d
    grind
 unfold a0s
 have hd : toL (detP n.toNat (a1Y n w)) = toL [] := by
  rw [a9p n1 (by lia), e]; exact a8k.symm
 have c1 := (a1O _ (a1J hw)).1
 rw [show n.toNat - 1 + 1 = n.toNat by lia] at c1
 rw [b7t c1 ⟨.nil, fun _ z => absurd z List.not_mem_nil⟩ hd]; rfl
noncomputable def a0Y (a b : Int) (x : Lp) : Prop := ∀ c, co x.1 c ≠ 0 → a ≤ c ∧ c ≤ b
theorem a0Y.mono {a b c d : Int} {x : Lp} (h : a0Y a b x) (h1 : c ≤ a) (h2 : b ≤ d) : a0Y c d x := fun k hk => by have := h k hk; lia
theorem a0Y.add {a b : Int} {x y : Lp} (h : a0Y a b x) (g : a0Y a b y) : a0Y a b (x + y) := fun c hc => by
 rw [a1z] at hc
 by_cases z : co x.1 c = 0
 ·exact g c (by lia)
 ·exact h c z
theorem c1d {p : Po} {f : Int → Int} {a b a' b' c : Int} (hp : ∀ x ∈ p, a ≤ x.1 ∧ x.1 ≤ b) (hf : ∀ c, f c ≠ 0 → a' ≤ c ∧ c ≤ b') (hc : c < a + a' ∨ b + b' < c) : cv p f c = 0 := by
 induction p with
 | nil => rfl
 | cons x p ih =>
   show x.2 * f (c - x.1) + cv p f c = 0
   rw [ih fun y hy => hp y (.tail _ hy)]
   have hx := hp x (.head _)
   by_cases z : f (c - x.1) = 0
   ·rw [z]; lia
   ·have := hf _ z; lia
theorem b8W {p : Po} (h : CanP p) {x : Int × Int} (hx : x ∈ p) : co p x.1 ≠ 0 := by rw [a2z h.1 hx]; exact h.2 x hx
theorem a0Y.pw {a b : Int} {x : Lp} (h : a0Y a b x) : ∀ z ∈ x.1, a ≤ z.1 ∧ z.1 ≤ b := fun z hz => h z.1 (b8W x.2 hz)
theorem a0Y.of {a b : Int} {p : Po} (h : ∀ z ∈ p, a ≤ z.1 ∧ z.1 ≤ b) : a0Y a b (toL p) := fun c hc => by
 rw [co_L] at hc
 by_cases z : ∃ y ∈ p, y.1 = c
 ·obtain ⟨y, hy, rfl⟩ := z; exact h y hy
 ·exact absurd (a1m fun y hy e => z ⟨y, hy, e⟩) hc
theorem a0Y.mul {a b c d : Int} {x y : Lp} (h : a0Y a b x) (g : a0Y c d y) : a0Y (a + c) (b + d) (x * y) := fun k hk => by
 rw [a1n] at hk
 by_cases z : k < a + c ∨ b + d < k
 ·exact absurd (c1d h.pw g z) hk
 ·lia
theorem a0Y.sgU (s : Int) : a0Y 0 0 (sgU s) := a0Y.of (p := [(0, s)]) fun z hz => by rw [List.mem_singleton.mp hz]; exact ⟨Int.le_refl _, Int.le_refl _⟩
theorem a0Y.neg {a b : Int} {x : Lp} (h : a0Y a b x) : a0Y a b (-x) := by
 have := (a0Y.sgU (-1)).mul h
 rw [Int.zero_add, Int.zero_add] at this
 exact this
theorem a0Y.sub {a b : Int} {x y : Lp} (h : a0Y a b x) (g : a0Y a b y) : a0Y a b (x - y) := by
 have := h.add g.neg
 have e : x - y = x + -y := rfl
 rw [e]; exact this
theorem a0Y.one {a b : Int} (ha : a ≤ 0) (hb : 0 ≤ b) : a0Y a b 1 := (a0Y.sgU 1).mono ha hb
theorem b9g {n : Int} {w : List Int} (hw : WordOK n w) {i j : Nat} (hi : i < n.toNat - 1) (hj : j < n.toNat - 1) : a0Y (-(nD w : Int)) (nU w) (RL n w i j) := by
 have hT := a0P hw
 have key : ∀ i j, i < n.toNat → j < n.toNat → a0Y (-(nD w : Int)) (nU w) (BL n w i j) := fun i j hi hj => by
  have hm : (tabP n w).getD i [] ∈ tabP n w := by
   rw [List.getD_eq_getElem?_getD, List.getElem?_eq_getElem (by rw [hT.1]; exact hi)]; exact List.getElem_mem _
  have hg := a6B hw _ hm (((tabP n w).getD i []).getD j []) (by
   rw [List.getD_eq_getElem?_getD (i := j), List.getElem?_eq_getElem (by rw [(hT.2 _ hm).1]; exact hj)]; exact List.getElem_mem _)
  exact a0Y.of hg.2
 exact (key _ _ (by lia) (by lia)).sub (key _ _ (by lia) (by lia))
noncomputable def mi {R : Type} [Lean.Grind.CommRing R] (A : Nat → Nat → R) (a b c d : Nat) : R := A a c * A b d - A a d * A b c
theorem c0F {R : Type} [Lean.Grind.CommRing R] (x0 x1 x2 y0 y1 y2 p0 p1 p2 q0 q1 q2 : R) : (x0 * p0 + x1 * p1 + x2 * p2) * (y0 * q0 + y1 * q1 + y2 * q2) - (x0 * q0 + x1 * q1 + x2 * q2) * (y0 * p0 + y1 * p1 + y2 * p2) = (x0 * y1 - x1 * y0) * (p0 * q1 - q0 * p1) + (x0 * y2 - x2 * y0) * (p0 * q2 - q0 * p2) + (x1 * y2 - x2 * y1) * (p1 * q2 - q1 * p2) := by grind
theorem c1V {u v : List Int} (hu : WordOK 4 u) (hv : WordOK 4 v) {a b c d : Nat} (ha : a < 3) (hb : b < 3) (hc : c < 3) (hd : d < 3) : mi (RL 4 (u ++ v)) a b c d = mi (RL 4 u) a b 0 1 * mi (RL 4 v) 0 1 c d + mi (RL 4 u) a b 0 2 * mi (RL 4 v) 0 2 c d + mi (RL 4 u) a b 1 2 * mi (RL 4 v) 1 2 c d := by
 have m := fun (i j : Nat) (hi : i < 3) (hj : j < 3) => a9I (n := 4) (by decide) hu hv (i := i) (j := j) hi hj
 unfold mi
 rw [m a c ha hc, m b d hb hd, m a d ha hd, m b c hb hc]
 unfold mmul
 rw [show (4 : Int).toNat - 1 = 3 from rfl, SR3, SR3, SR3, SR3]
 exact c0F ..
noncomputable def pr3 : List (Nat × Nat) := [(0, 1), (0, 2), (1, 2)]
theorem b3P : ∀ l ∈ [(1 : Int), 2, 3], ∀ p ∈ pr3, ∀ q ∈ pr3, (∀ z ∈ (mi (RL 4 [l]) p.1 p.2 q.1 q.2).1, 0 ≤ z.1 ∧ z.1 ≤ 1) ∧ (∀ z ∈ (mi (RL 4 [-l]) p.1 p.2 q.1 q.2).1, -1 ≤ z.1 ∧ z.1 ≤ 0) := by decide +kernel
theorem a7k {a b : Int} {x : Lp} (h : ∀ z ∈ x.1, a ≤ z.1 ∧ z.1 ≤ b) : a0Y a b x := fun c hc => by
 by_cases z : ∃ y ∈ x.1, y.1 = c
 ·obtain ⟨y, hy, rfl⟩ := z; exact h y hy
 ·exact absurd (a1m fun y hy e => z ⟨y, hy, e⟩) hc
theorem b3O : ∀ {w : List Int}, WordOK 4 w → ∀ p ∈ pr3, ∀ q ∈ pr3, a0Y (-(nD w : Int)) (nU w) (mi (RL 4 w) p.1 p.2 q.1 q.2)
 | [], _, p, hp, q, hq => by
   refine a7k ?_
   have : ∀ p ∈ pr3, ∀ q ∈ pr3, ∀ z ∈ (mi (RL 4 []) p.1 p.2 q.1 q.2).1, -(nD [] : Int) ≤ z.1 ∧ z.1 ≤ (nU [] : Int) := by decide +kernel
   exact this p hp q hq
 | l :: w, hw, p, hp, q, hq => by
   have hl := hw l (.head _)
   have hw' : WordOK 4 w := fun x hx => hw x (.tail _ hx)
   have ih := b3O hw'
   have lim : ∀ p ∈ pr3, p.1 < 3 ∧ p.2 < 3 := by decide
   have base : ∀ q ∈ pr3, a0Y (-((if 0 < l then 0 else 1 : Nat) : Int)) ((if 0 < l then 1 else 0 : Nat) : Int) (mi (RL 4 [l]) p.1 p.2 q.1 q.2) := fun q hq => by
    have hlm : (l.natAbs : Int) ∈ [(1 : Int), 2, 3] := by
     obtain ⟨a, b⟩ := hl
     rcases (show (l.natAbs : Int) = 1 ∨ (l.natAbs : Int) = 2 ∨ (l.natAbs : Int) = 3 by lia) with e | e | e <;> rw [e] <;> decide
    obtain ⟨a, b⟩ := b3P _ hlm p hp q hq
    by_cases c : 0 < l
    ·rw [show (l.natAbs : Int) = l by lia] at a
     rw [if_pos c, if_pos c]
     exact a7k a
    ·rw [show -(l.natAbs : Int) = l by lia] at b
     rw [if_neg c, if_neg c]
     exact a7k b
   have e1 : (nD (l :: w) : Int) = ((if 0 < l then 0 else 1 : Nat) : Int) + nD w := by show (((if 0 < l then 0 else 1) + nD w : Nat) : Int) = _; lia
   have e2 : (nU (l :: w) : Int) = ((if 0 < l then 1 else 0 : Nat) : Int) + nU w := by show (((if 0 < l then 1 else 0) + nU w : Nat) : Int) = _; lia
   have m := c1V (u := [l]) (v := w) (a2t hl) hw' (lim p hp).1 (lim p hp).2 (lim q hq).1 (lim q hq).2
   rw [show l :: w = [l] ++ w from rfl, m]
   rw [show [l] ++ w = l :: w from rfl, e1, e2]
   have g := fun r (hr : r ∈ pr3) => (base r hr).mul (ih r hr q hq)
   have g1 := g (0, 1) (by decide)
   have g2 := g (0, 2) (by decide)
   have g3 := g (1, 2) (by decide)
   rw [← Int.neg_add] at g1 g2 g3
   exact (g1.add g2).add g3
theorem b1F {n : Int} (n1 : 1 ≤ n) (n4 : n ≤ 4) : ∀ {w : List Int}, WordOK n w → a0Y (-(nD w : Int)) (nU w) (DD (n.toNat - 1) (RL n w))
 | [], _ => by rw [a6j n1 n4]; exact .one (Int.le_refl _) (Int.le_refl _)
 | l :: w, hw => by
   have hl := hw l (.head _)
   have hw' : WordOK n w := fun x hx => hw x (.tail _ hx)
   rw [show l :: w = [l] ++ w from rfl, a6k n1 n4 (a2t hl) hw']
   have e1 : (nD ([l] ++ w) : Int) = ((if 0 < l then 0 else 1 : Nat) : Int) + nD w := by show (((if 0 < l then 0 else 1) + nD w : Nat) : Int) = _; lia
   have e2 : (nU ([l] ++ w) : Int) = ((if 0 < l then 1 else 0 : Nat) : Int) + nU w := by show (((if 0 < l then 1 else 0) + nU w : Nat) : Int) = _; lia
   rw [e1, e2, Int.neg_add]
   refine a0Y.mul ?_ (b1F n1 n4 hw')
   obtain ⟨a, b⟩ := b1p _ (a7J hl n4)
   dsimp only at a b
   refine a7k ?_
   by_cases c : 0 < l
   ·rw [show (l.natAbs : Int) = l by lia] at a
    rw [a, if_pos c, if_pos c]; decide
   ·rw [show -(l.natAbs : Int) = l by lia] at b
    rw [b, if_neg c, if_neg c]; decide
theorem c1n {R : Type} [Lean.Grind.CommRing R] (a b c d e f g h i : R) : M3d (1 - a) (0 - b) (0 - c) (0 - d) (1 - e) (0 - f) (0 - g) (0 - h) (1 - i) = 1 - (a + e + i) + ((a * e - b * d) + (a * i - c * g) + (e * i - f * h)) - M3d a b c d e f g h i := by
 unfold M3d; grind
theorem c1o {R : Type} [Lean.Grind.CommRing R] (a b d e : R) : M2d (1 - a) (0 - b) (0 - d) (1 - e) = 1 - (a + e) + M2d a b d e := by
 unfold M2d; grind
theorem b9p {n : Int} (n1 : 1 ≤ n) (n4 : n ≤ 4) {w : List Int} (hw : WordOK n w) : a0Y (-(nD w : Int)) (nU w) (DD (n.toNat - 1) (EL n w)) := by
 have o : a0Y (-(nD w : Int)) (nU w) 1 := .one (by lia) (by lia)
 have d := b1F n1 n4 hw
 have r := fun (i j : Nat) (hi : i < n.toNat - 1) (hj : j < n.toNat - 1) => b9g hw hi hj
 rcases (show n = 1 ∨ n = 2 ∨ n = 3 ∨ n = 4 by lia) with rfl | rfl | rfl | rfl
 ·exact o
 ·exact o.sub (r 0 0 (by decide) (by decide))
 ·show a0Y _ _ (M2d (1 - RL 3 w 0 0) (0 - RL 3 w 0 1) (0 - RL 3 w 1 0) (1 - RL 3 w 1 1))
  rw [c1o]
  exact (o.sub ((r 0 0 (by decide) (by decide)).add (r 1 1 (by decide) (by decide)))).add d
 ·show a0Y _ _ (M3d (1 - RL 4 w 0 0) (0 - RL 4 w 0 1) (0 - RL 4 w 0 2) (0 - RL 4 w 1 0) (1 - RL 4 w 1 1) (0 - RL 4 w 1 2) (0 - RL 4 w 2 0) (0 - RL 4 w 2 1) (1 - RL 4 w 2 2))
  rw [c1n]
  have m := fun p hp => b3O hw p hp p hp
  have m1 := m (0, 1) (by decide)
  have m2 := m (0, 2) (by decide)
  have m3 := m (1, 2) (by decide)
  exact ((o.sub (((r 0 0 (by decide) (by decide)).add (r 1 1 (by decide) (by decide))).add (r 2 2 (by decide) (by decide)))).add ((m1.add m2).add m3)).sub d
theorem a4S (x : Int × Int) (p : Po) (h : CanP (x :: p)) : a7S (x :: p) = (x :: p).map fun z => (z.1 - x.1, (if 0 < x.2 then 1 else -1) * z.2) := by
 have hs : (if 0 < x.2 then (1 : Int) else -1) ≠ 0 := by split <;> decide
 refine a1x (a2T _) ⟨List.pairwise_map.mpr (h.1.imp fun h => by lia), fun y hy => ?_⟩ fun c => ?_
 ·obtain ⟨z, hz, rfl⟩ := List.mem_map.mp hy
  exact Int.mul_ne_zero hs (h.2 z hz)
 ·have e := b1L (-x.1) (if 0 < x.2 then 1 else -1) c (x :: p)
  rw [a8a]
  have e3 : (x :: p).map (fun z => (z.1 - x.1, (if 0 < x.2 then (1 : Int) else -1) * z.2)) = (x :: p).map fun z => (z.1 + -x.1, (if 0 < x.2 then (1 : Int) else -1) * z.2) := List.map_congr_left fun z _ => by rw [Int.sub_eq_add_neg]
  rw [e3, e, show c - -x.1 = c + x.1 by lia]
theorem a6W {n : Int} {w : List Int} (h : PlOK n w) (hne : a0s n w ≠ []) : ∃ v r, a0s n w = (0, v) :: r ∧ 0 < v ∧ CanP (a0s n w) := by
 have c1 := (a1O _ (a1J h)).1
 have n1 := h.1
 rw [show n.toNat - 1 + 1 = n.toNat by lia] at c1
 unfold a0s at hne ⊢
 generalize detP n.toNat (a1Y n w) = p at c1 hne ⊢
 cases p with
 | nil => exact absurd rfl hne
 | cons x p =>
   rw [a4S x p c1]
   have hx := c1.2 x (.head _)
   refine ⟨(if 0 < x.2 then 1 else -1) * x.2, p.map fun z => (z.1 - x.1, (if 0 < x.2 then 1 else -1) * z.2), by rw [List.map_cons, Int.sub_self], ?_, by rw [← a4S x p c1]; exact a2T _⟩
   split <;> lia
theorem b6B {m : Nat} {g : Nat → Int} (h : ∀ k, k < m → g k = 0) : SuN (m + 1) g = g m := by
 have : ∀ j, j ≤ m → SuN j g = 0 := fun j => by
  induction j with
  | zero => intro _; rfl
  | succ j ih => intro hj; show SuN j g + g j = 0; rw [ih (by lia), h j (by lia)]; rfl
 show SuN m g + g m = g m
 rw [this m (Nat.le_refl _)]; lia
theorem b4c : ∀ {p : Po}, CanP p → p ≠ [] → ∃ y ∈ p, ∀ z ∈ p, z.1 ≤ y.1
 | [], _, h => absurd rfl h
 | y :: p, hp, _ => by
   by_cases e : p = []
   ·subst e
    exact ⟨y, .head _, fun z hz => by rw [List.mem_singleton.mp hz]; exact Int.le_refl _⟩
   ·obtain ⟨q1, q2⟩ := List.pairwise_cons.mp hp.1
    obtain ⟨t, ht, hh⟩ := b4c ⟨q2, fun z hz => hp.2 z (.tail _ hz)⟩ e
    refine ⟨t, .tail _ ht, fun z hz => ?_⟩
    rcases List.mem_cons.mp hz with e | e
    ·rw [e]; exact Int.le_of_lt (q1 t ht)
    ·exact hh z e
theorem b3i {m : Nat} {z : Lp} {a b : Int} (h : a0Y a b (SR (m + 1) L2.tL * z)) : ∀ x ∈ z.1, a ≤ x.1 ∧ x.1 + m ≤ b := by
 obtain ⟨p, hp⟩ := z
 intro x hx
 have hx : x ∈ p := hx
 have hne : p ≠ [] := fun e => by rw [e] at hx; cases hx
 have low : ∃ y ∈ p, ∀ z ∈ p, y.1 ≤ z.1 := by
  cases p with
  | nil => exact absurd rfl hne
  | cons y p =>
    refine ⟨y, .head _, fun z hz => ?_⟩
    rcases List.mem_cons.mp hz with e | e
    ·rw [e]; exact Int.le_refl _
    ·exact Int.le_of_lt ((List.pairwise_cons.mp hp.1).1 z e)
 have high := b4c hp hne
 obtain ⟨y, hy, hlow⟩ := low
 obtain ⟨t, ht, hhigh⟩ := high
 have a1 : a ≤ y.1 := by
  refine (h y.1 ?_).1
  rw [b6u, b1V fun k hk => a1m fun z hz e => by have := hlow z hz; lia]
  rw [show y.1 - ((0 : Nat) : Int) = y.1 by lia]
  exact b8W hp hy
 have b1 : t.1 + m ≤ b := by
  refine (h (t.1 + m) ?_).2
  rw [b6u, b6B fun k hk => a1m fun z hz e => by have := hhigh z hz; lia]
  rw [show t.1 + (m : Int) - ((m : Nat) : Int) = t.1 by lia]
  exact b8W hp ht
 have := hlow x hx
 have := hhigh x hx
 lia
theorem b6v {n : Int} {w : List Int} (h : PlOK n w) (n4 : n ≤ 4) : ∀ x ∈ a0s n w, x.1 ≤ (w.length : Int) - n + 1 := by
 have n1 := h.1
 have sp := b9p n1 n4 h.2.2.2
 rw [b9q n1 n4 h.2.2.2, ← a9p n1 (by lia)] at sp
 have c1 := (a1O _ (a1J h)).1
 rw [show n.toNat - 1 + 1 = n.toNat by lia] at c1
 unfold a0s
 generalize detP n.toNat (a1Y n w) = p at c1 sp ⊢
 have ev : (toL p).1 = p := a1x (toL p).2 c1 fun c => co_L p c
 rw [show n.toNat = (n.toNat - 1) + 1 by lia] at sp
 have se := b3i sp
 rw [ev] at se
 have hud := b8x w
 cases p with
 | nil => intro x hx; cases hx
 | cons y p =>
   intro x hx
   rw [a4S y p c1] at hx
   obtain ⟨z, hz, rfl⟩ := List.mem_map.mp hx
   have s1 := se y (.head _)
   have s2 := se z hz
   dsimp only
   lia
noncomputable def barP (p : Po) : Po := p.map fun z => (-z.1, z.2)
theorem b7d (c : Int) : ∀ p : Po, co (barP p) c = co p (-c)
 | [] => rfl
 | x :: p => by
   show (if -x.1 = c then x.2 else 0) + co (barP p) c = (if x.1 = -c then x.2 else 0) + co p (-c)
   rw [b7d c p]
   by_cases h : -x.1 = c
   ·rw [if_pos h, if_pos (by lia)]
   ·rw [if_neg h, if_neg (by lia)]
noncomputable def barL (x : Lp) : Lp := toL (barP x.1)
theorem a4a (x : Lp) (c : Int) : co (barL x).1 c = co x.1 (-c) := by unfold barL; rw [co_L, b7d]
theorem a8h (x y : Lp) : barL (x + y) = barL x + barL y := Lp.ext2 fun c => by rw [a1z, a4a, a4a, a4a, a1z]
theorem b7b (f : Int → Int) (c : Int) : ∀ p : Po, cv (barP p) (fun k => f (-k)) c = cv p f (-c)
 | [] => rfl
 | x :: p => by
   show x.2 * f (-(c - -x.1)) + cv (barP p) (fun k => f (-k)) c = x.2 * f (-c - x.1) + cv p f (-c)
   rw [b7b f c p, show -(c - -x.1) = -c - x.1 by lia]
theorem a3f (x y : Lp) : barL (x * y) = barL x * barL y := Lp.ext2 fun c => by
 rw [a4a, a1n, a1n]
 have e : co (barL y).1 = fun k => co y.1 (-k) := funext fun k => a4a y k
 rw [e]
 unfold barL
 rw [cv_L, b7b]
theorem a5y (k s : Int) : barL (toL [(k, s)]) = toL [(-k, s)] := Lp.ext2 fun c => by
 rw [a4a, co_L, co_L]
 show (if k = -c then s else 0) + 0 = (if -k = c then s else 0) + 0
 by_cases h : k = -c
 ·rw [if_pos h, if_pos (by lia)]
 ·rw [if_neg h, if_neg (by lia)]
theorem b0H (s : Int) : barL (sgU s) = sgU s := a5y 0 s
theorem a6f : barL 1 = 1 := b0H 1
theorem b1R : barL 0 = 0 := b0H 0
theorem a6e (x y : Lp) : barL (x - y) = barL x - barL y := by
 show barL (x + sgU (-1) * y) = barL x + sgU (-1) * barL y
 rw [a8h, a3f, b0H]
theorem b9a (a b c d : Lp) : barL (M2d a b c d) = M2d (barL a) (barL b) (barL c) (barL d) := by
 unfold M2d; rw [a6e, a3f, a3f]
theorem b8Z (a b c d e f g h i : Lp) : barL (M3d a b c d e f g h i) = M3d (barL a) (barL b) (barL c) (barL d) (barL e) (barL f) (barL g) (barL h) (barL i) := by
 unfold M3d; simp only [a6e, a3f, a8h]
theorem c1g {m : Nat} (hm : m ≤ 3) (A : Nat → Nat → Lp) : barL (DD m A) = DD m fun i j => barL (A i j) := by
 match m, hm with
 | 0, _ => exact a6f
 | 1, _ => rfl
 | 2, _ => exact b9a ..
 | 3, _ => exact b8Z ..
theorem UnL.bar {u : Lp} (h : UnL u) : UnL (barL u) := by
 obtain ⟨k, s, hs, rfl⟩ := h
 exact ⟨-k, s, hs, a5y k s⟩
noncomputable def a3J (n : Int) (w : List Int) : List Int := (w.map (a3m n)).map fun l => -l
theorem b2i (n : Int) (w : List Int) (l : Int) : a3J n (w ++ [l]) = a3J n w ++ [-a3m n l] := by
 unfold a3J; rw [List.map_append, List.map_append]; rfl
theorem a7j {n : Int} {w : List Int} (h : WordOK n w) : WordOK n (a3J n w) := fun x hx => by
 unfold a3J at hx
 obtain ⟨y, hy, rfl⟩ := List.mem_map.mp hx
 obtain ⟨z, hz, rfl⟩ := List.mem_map.mp hy
 exact (h z hz).flip.neg
theorem b3g (n : Int) (w : List Int) : (a3J n w).length = w.length := by unfold a3J; rw [List.length_map, List.length_map]
theorem b7e : barL (toL upP) = toL a4X := a5y 1 1
theorem b1S : barL (toL a4X) = toL upP := a5y (-1) 1
theorem c1h {n : Int} : ∀ {w : List Int}, WordOK n w → ∀ {i j : Nat}, i < n.toNat → j < n.toNat → barL (BL n w i j) = BL n (a3J n w) (n.toNat - 1 - i) (n.toNat - 1 - j) := fun {w} => by
 refine a7m (P := fun w => WordOK n w → ∀ {i j : Nat}, i < n.toNat → j < n.toNat → barL (BL n w i j) = BL n (a3J n w) (n.toNat - 1 - i) (n.toNat - 1 - j)) (fun _ i j hi hj => ?_) (fun w l ih hw i j hi hj => ?_) w
 ·show barL (BL n [] i j) = BL n [] _ _
  rw [a5g hi hj, a5g (by lia) (by lia)]
  by_cases c : i = j
  ·rw [if_pos c, if_pos (by lia)]; exact a6f
  ·rw [if_neg c, if_neg (by lia)]; exact b1R
 ·have hw' : WordOK n w := fun x hx => hw x (List.mem_append.mpr (.inl hx))
  have hl : LetOK n l := hw l (List.mem_append.mpr (.inr (.head _)))
  obtain ⟨k, hk⟩ : ∃ k : Nat, l.natAbs = k + 1 := ⟨l.natAbs - 1, by have := hl.1; lia⟩
  have hkn : k + 1 < n.toNat := by have := hl.2; lia
  have hfa : (-a3m n l).natAbs = (n.toNat - 2 - k) + 1 := by unfold a3m; split <;> lia
  have hfs : 0 < -a3m n l ↔ ¬ 0 < l := by unfold a3m; have := hl.2; split <;> lia
  have a := ih hw' hi (j := k) (by lia)
  have b := ih hw' hi (j := k + 1) (by lia)
  have c := ih hw' hi hj
  rw [b2i, a8j hw' hl hk hi, a8j (a7j hw') hl.flip.neg hfa (by lia)]
  rw [show n.toNat - 1 - k = n.toNat - 2 - k + 1 by lia] at a
  rw [show n.toNat - 1 - (k + 1) = n.toNat - 2 - k by lia] at b
  by_cases c1 : j = k
  ·subst c1
   rw [if_pos rfl, if_neg (show ¬ n.toNat - 1 - j = n.toNat - 2 - j by lia), if_pos (show n.toNat - 1 - j = n.toNat - 2 - j + 1 by lia)]
   by_cases s : 0 < l
   ·rw [if_pos s, if_neg (by rw [hfs]; exact fun z => z s), a8h, a3f, a, b, b6F, a6e, a6f, b7e, a6V]; grind
   ·rw [if_neg s, if_pos (hfs.mpr s), a3f, b, b1S]
  ·rw [if_neg c1]
   by_cases c2 : j = k + 1
   ·subst c2
    rw [if_pos rfl, if_pos (show n.toNat - 1 - (k + 1) = n.toNat - 2 - k by lia)]
    by_cases s : 0 < l
    ·rw [if_pos s, if_neg (by rw [hfs]; exact fun z => z s), a3f, a, b7e]
    ·rw [if_neg s, if_pos (hfs.mpr s), a8h, a3f, a, b, a6V, a6e, a6f, b1S, b6F]; grind
   ·rw [if_neg c2, if_neg (show ¬ n.toNat - 1 - j = n.toNat - 2 - k by lia), if_neg (show ¬ n.toNat - 1 - j = n.toNat - 2 - k + 1 by lia)]
    exact c
noncomputable def ALl (n : Int) (w : List Int) (i j : Nat) : Lp := (if i = j then 1 else 0) - BL n w i j
theorem row3 {R : Type} [Lean.Grind.CommRing R] (u v x a b c d e f g h i : R) : M3d (-(u * a + v * d + x * g)) (-(u * b + v * e + x * h)) (-(u * c + v * f + x * i)) a b c d e f = -(x * M3d a b c d e f g h i) := by unfold M3d; grind
theorem col3 {R : Type} [Lean.Grind.CommRing R] (a b c d e f g h i : R) : M3d (-(a + b + c)) a b (-(d + e + f)) d e (-(g + h + i)) g h = -(M3d a b c d e f g h i) := by unfold M3d; grind
theorem row2 {R : Type} [Lean.Grind.CommRing R] (u v a b d e : R) : M2d (-(u * a + v * d)) (-(u * b + v * e)) a b = v * M2d a b d e := by unfold M2d; grind
theorem col2 {R : Type} [Lean.Grind.CommRing R] (a b d e : R) : M2d (-(a + b)) a (-(d + e)) d = M2d a b d e := by unfold M2d; grind
theorem b2A {n : Int} (n1 : 1 ≤ n) (n4 : n ≤ 4) {w : List Int} (hw : WordOK n w) : DD (n.toNat - 1) (ALl n w) = L2.tL (n.toNat - 1) * DD (n.toNat - 1) (AL1 n w) := by
 have t0 : L2.tL 0 = (1 : Lp) := rfl
 have hr : ∀ i, i < n.toNat → SR n.toNat (fun j => ALl n w i j) = 0 := fun i hi => by
  have := b1Y hw hi
  have e1 := a9H hi (fun _ => (1 : Lp))
  have e2 : SR n.toNat (fun j => ALl n w i j) = SR n.toNat (fun j => (if i = j then 1 else 0) * 1) - SR n.toNat (fun j => BL n w i j) := by
   rw [← a4w]; exact a1E fun j _ => by unfold ALl; grind
  rw [e2, e1, this]; grind
 have hc : ∀ j, j < n.toNat → SR n.toNat (fun i => L2.tL i * ALl n w i j) = 0 := fun j hj => by
  have := b7m hw hj
  have e1 := a9H hj (fun k => L2.tL k)
  have e2 : SR n.toNat (fun i => L2.tL i * ALl n w i j) = SR n.toNat (fun i => (if j = i then 1 else 0) * L2.tL i) - SR n.toNat (fun i => L2.tL i * BL n w i j) := by
   rw [← a4w]; exact a1E fun i _ => by
    unfold ALl
    by_cases c : i = j
    ·rw [if_pos c, if_pos c.symm]; grind
    ·rw [if_neg c, if_neg (fun z => c z.symm)]; grind
  rw [e2, e1, this]; grind
 have ha : ∀ i j, AL1 n w i j = ALl n w (i + 1) (j + 1) := fun i j => by
  unfold AL1 ALl
  by_cases c : i = j
  ·rw [if_pos c, if_pos (by lia)]
  ·rw [if_neg c, if_neg (by lia)]
 have hA : DD (n.toNat - 1) (AL1 n w) = DD (n.toNat - 1) fun i j => ALl n w (i + 1) (j + 1) := a2h (by lia) fun i j _ _ => ha i j
 rw [hA]
 clear ha hA
 generalize ALl n w = A at hr hc
 rcases (show n = 1 ∨ n = 2 ∨ n = 3 ∨ n = 4 by lia) with rfl | rfl | rfl | rfl
 ·show (1 : Lp) = L2.tL 0 * 1
  rw [t0]; grind
 ·show A 0 0 = L2.tL 1 * A 1 1
  have r1 := hr 1 (by decide)
  have c0 := hc 0 (by decide)
  rw [show ((2 : Int)).toNat = 2 from rfl, SR2] at r1 c0
  rw [t0] at c0
  grind
 ·show M2d (A 0 0) (A 0 1) (A 1 0) (A 1 1) = L2.tL 2 * M2d (A 1 1) (A 1 2) (A 2 1) (A 2 2)
  have r1 := hr 1 (by decide)
  have r2 := hr 2 (by decide)
  have c0 := hc 0 (by decide)
  have c1 := hc 1 (by decide)
  rw [show ((3 : Int)).toNat = 3 from rfl, SR3] at r1 r2 c0 c1
  rw [t0] at c0 c1
  have e0 : A 0 0 = -(L2.tL 1 * A 1 0 + L2.tL 2 * A 2 0) := by grind
  have e1 : A 0 1 = -(L2.tL 1 * A 1 1 + L2.tL 2 * A 2 1) := by grind
  have f1 : A 1 0 = -(A 1 1 + A 1 2) := by grind
  have f2 : A 2 0 = -(A 2 1 + A 2 2) := by grind
  rw [e0, e1, row2, f1, f2, col2]
 ·show M3d (A 0 0) (A 0 1) (A 0 2) (A 1 0) (A 1 1) (A 1 2) (A 2 0) (A 2 1) (A 2 2) = L2.tL 3 * M3d (A 1 1) (A 1 2) (A 1 3) (A 2 1) (A 2 2) (A 2 3) (A 3 1) (A 3 2) (A 3 3)
  have r1 := hr 1 (by decide)
  have r2 := hr 2 (by decide)
  have r3 := hr 3 (by decide)
  have c0 := hc 0 (by decide)
  have c1 := hc 1 (by decide)
  have c2 := hc 2 (by decide)
  rw [show ((4 : Int)).toNat = 4 from rfl, SR4] at r1 r2 r3 c0 c1 c2
  rw [t0] at c0 c1 c2
  have e0 : A 0 0 = -(L2.tL 1 * A 1 0 + L2.tL 2 * A 2 0 + L2.tL 3 * A 3 0) := by grind
  have e1 : A 0 1 = -(L2.tL 1 * A 1 1 + L2.tL 2 * A 2 1 + L2.tL 3 * A 3 1) := by grind
  have e2 : A 0 2 = -(L2.tL 1 * A 1 2 + L2.tL 2 * A 2 2 + L2.tL 3 * A 3 2) := by grind
  have f1 : A 1 0 = -(A 1 1 + A 1 2 + A 1 3) := by grind
  have f2 : A 2 0 = -(A 2 1 + A 2 2 + A 2 3) := by grind
  have f3 : A 3 0 = -(A 3 1 + A 3 2 + A 3 3) := by grind
  rw [e0, e1, e2, row3, f1, f2, f3, col3]
  clear r1 r2 r3 c0 c1 c2 e0 e1 e2 f1 f2 f3 hr hc
  grind
theorem b9s {m : Nat} (hm : m ≤ 3) (A : Nat → Nat → Lp) : DD m (fun i j => A (m - 1 - i) (m - 1 - j)) = DD m A := by
 match m, hm with
 | 0, _ => rfl
 | 1, _ => rfl
 | 2, _ => show M2d (A 1 1) (A 1 0) (A 0 1) (A 0 0) = M2d _ _ _ _; unfold M2d; grind
 | 3, _ => show M3d (A 2 2) (A 2 1) (A 2 0) (A 1 2) (A 1 1) (A 1 0) (A 0 2) (A 0 1) (A 0 0) = M3d _ _ _ _ _ _ _ _ _; unfold M3d; grind
theorem b6x {n : Int} {w : List Int} (h : PlOK n w) (n4 : n ≤ 4) : ∃ u, UnL u ∧ barL (toL (a0s n w)) = u * toL (a0s n w) := by
 have n1 := h.1
 have hw := h.2.2.2
 have hs : PlOK n (a3J n w) := ⟨h.1, h.2.1, by rw [b3g]; exact h.2.2.1, a7j hw⟩
 have hf : PlOK n (w.map (a3m n)) := ⟨h.1, h.2.1, by rw [List.length_map]; exact h.2.2.1, fun x hx => by
  obtain ⟨y, hy, rfl⟩ := List.mem_map.mp hx
  exact (hw y hy).flip⟩
 have ec : a0s n (a3J n w) = a0s n w := by
  show a0s n ((w.map (a3m n)).map fun l => -l) = _
  rw [b0G hf hs n4, b4R h hf n4]
 have eb : barL (DD (n.toNat - 1) (AL1 n w)) = L2.tL (n.toNat - 1) * DD (n.toNat - 1) (AL1 n (a3J n w)) := by
  rw [c1g (by lia), ← b2A n1 n4 (a7j hw), ← b9s (by lia) (ALl n (a3J n w))]
  refine a2h (by lia) fun i j hi hj => ?_
  unfold AL1 ALl
  rw [a6e, c1h hw (by lia) (by lia), show n.toNat - 1 - (i + 1) = n.toNat - 1 - 1 - i by lia, show n.toNat - 1 - (j + 1) = n.toNat - 1 - 1 - j by lia]
  by_cases c : i = j
  ·rw [if_pos c, if_pos (by lia), a6f]
  ·rw [if_neg c, if_neg (by lia), b1R]
 obtain ⟨u1, h1, e1⟩ := b0F (w := w) n1 (by lia : n ≤ 5)
 obtain ⟨u2, h2, e2⟩ := b0F (w := a3J n w) n1 (by lia : n ≤ 5)
 rw [ec] at e2
 obtain ⟨v, hv, ev⟩ := h2.inv
 refine ⟨barL u1 * L2.tL (n.toNat - 1) * v, (h1.bar.mul (.tL _)).mul hv, ?_⟩
 have e3 : barL (toL (a0s n w)) = barL u1 * (L2.tL (n.toNat - 1) * DD (n.toNat - 1) (AL1 n (a3J n w))) := by
  rw [e1, a3f, eb]
 rw [e3]
 have e4 : DD (n.toNat - 1) (AL1 n (a3J n w)) = v * toL (a0s n w) := by rw [e2]; grind
 rw [e4]
 grind
theorem b6w {n : Int} {w : List Int} (h : PlOK n w) (n4 : n ≤ 4) {b : Int} (hb : co (a0s n w) b ≠ 0) (hm : ∀ c, co (a0s n w) c ≠ 0 → c ≤ b) : ∃ s : Int, (s = 1 ∨ s = -1) ∧ ∀ c, co (a0s n w) c = s * co (a0s n w) (b - c) := by
 obtain ⟨u, ⟨k, s, hs, rfl⟩, e⟩ := b6x h n4
 have hne : a0s n w ≠ [] := fun z => hb (by rw [z]; rfl)
 obtain ⟨v, r, er, v0, hcan⟩ := a6W h hne
 have hc : ∀ c, co (a0s n w) (-c) = s * co (a0s n w) (c - k) := fun c => by
  have e2 := congrArg (fun x : Lp => co x.1 c) e
  have e3 : co (barL (toL (a0s n w))).1 c = co (a0s n w) (-c) := by rw [a4a, co_L]
  have e4 : co (toL [(k, s)] * toL (a0s n w)).1 c = s * co (a0s n w) (c - k) := by
   rw [a1n, cv_L]
   show s * co (toL (a0s n w)).1 (c - k) + 0 = _
   rw [co_L]; lia
  rw [← e3, ← e4]; exact e2
 have h0 : co (a0s n w) 0 ≠ 0 := by
  have : co (a0s n w) ((0 : Int), v).1 = v := a2z hcan.1 (by rw [er]; exact .head _)
  rw [show (((0 : Int), v).1) = 0 from rfl] at this
  lia
 have hlow : ∀ c, co (a0s n w) c ≠ 0 → 0 ≤ c := fun c hc => by
  by_cases z : ∃ y ∈ a0s n w, y.1 = c
  ·obtain ⟨y, hy, rfl⟩ := z
   rw [er] at hy
   rcases List.mem_cons.mp hy with e | e
   ·rw [e]; exact Int.le_refl _
   ·have := hcan.1
    rw [er] at this
    exact Int.le_of_lt ((List.pairwise_cons.mp this).1 y e)
  ·exact absurd (a1m fun y hy e => z ⟨y, hy, e⟩) hc
 have k1 : 0 ≤ -b - k := by
  have a := hc (-b)
  rw [Int.neg_neg] at a
  refine hlow _ fun z => hb ?_
  rw [a, z, Int.mul_zero]
 have k2 : -k ≤ b := by
  have a := hc k
  rw [Int.sub_self] at a
  refine hm _ fun z => ?_
  rw [z] at a
  rcases hs with rfl | rfl <;> lia
 have hk : k = -b := by lia
 refine ⟨s, hs, fun c => ?_⟩
 have a := hc (-c)
 rw [Int.neg_neg] at a
 rw [a, hk, show -c - -b = b - c by lia]
section
variable {P : Program} {w : World} {A : Around} {E : Value → Shared → Prop} {s : Shared}
theorem b5S {d : Addr} {kvs : List (Key × Value)} {ep : Nat} {ns : List Int} {Q : Value → Shared → Prop} (hA : A.handled = none) (hd : s.heap.DictAt (a0m P w) d kvs ep) (lo : (d == sysModules) = false) (hk : kvs.map (·.1) = ns.map Sum.inl) (hne : 0 < ns.length)
  (h : ∀ h' m (t : Tok) tk, (∀ b o, s.heap.get? b = some o → h'.get? b = some o) → m ∈ ns → (∀ a ∈ ns, a ≤ m) → Q (.int m t) { s with heap := h', toks := tk }) :
  wpAny (model P w) A (call (.builtin "max") [.ref d]) Q E s := by
 have hl : kvs.length = ns.length := by
  have := congrArg List.length hk
  rwa [List.length_map, List.length_map] at this
 have hlt : d < s.heap.objs.size := by obtain ⟨_, _, e, _⟩ := hd; exact Heap.lt_size e
 refine call_max_walk (wpAny_pyIter_dict lo hd ?_)
 refine ⟨_, _, _, _, _, _, _, rfl, Walks.dictKeys (knd := a0m P w) (A := A.in1) hA s.heap.objs.size d (Nat.ne_of_lt hlt) kvs ep, ⟨⟨_, Heap.get?_push_size _ rfl, rfl, rfl⟩, hd.at' fun o e => Heap.get?_push_of_some _ e⟩, fun b hb => ?_, by lia, CmpOf.ints_gt (fun i => ns.getD i 0) (fun i v hv => a7K hk hv), fun v h' tk hP hkp => ?_⟩
 ·show b < (s.heap.push _).objs.size
  rw [Heap.size_push]
  rcases List.mem_cons.mp hb with rfl | hb
  ·exact Nat.lt_succ_self _
  ·rcases List.mem_cons.mp hb with rfl | hb
   ·exact Nat.lt_succ_of_lt hlt
   ·cases hb
 ·obtain ⟨t, rfl⟩ := a7K hk hP
  obtain ⟨h1, h2⟩ := argBest_gt (fun i => ns.getD i 0) (kvs.length - 1)
  refine h _ _ t tk (fun b o eb => hkp b o (fun hm => ?_) (Heap.get?_push_of_some _ eb)) ?_ fun a ha => ?_
  ·rcases List.mem_cons.mp hm with e1 | hm
   ·exact absurd (e1 ▸ Heap.lt_size eb) (Nat.lt_irrefl _)
   ·cases hm
  ·exact a9g (by lia)
  ·obtain ⟨j, hj, rfl⟩ := mem_getD ha
   exact h2 j (by lia)
end
section
variable {X : Cx} {e f : Expr}
noncomputable def b3r : List T → MH → VK3 → Prop := fun xs M Q => match xs with
 | [.adr p] => (match M p with | some (.fk kvs) => ∃ ns : List Int, kvs.map Prod.fst = ns.map Sum.inl ∧ 0 < ns.length ∧ ∀ m : Int, m ∈ ns → (∀ a ∈ ns, a ≤ m) → Q (.int m) M | _ => False)
 | _ => False
theorem b2O (hc : X.calm = true) : a3k X (.builtin "max") b3r := by
 intro pins s σ H vs us Q2 I r h
 obtain ⟨xs, M, Q, rr, hh, q, en⟩ := h
 unfold b3r at q
 split at q
 ·obtain ⟨v, rfl, r1⟩ := a2r rr
  obtain rfl := a0o r1
  obtain ⟨u, rfl, rx⟩ := a3n r
  cases rx
  split at q
  ·rename_i kvs e0
   obtain ⟨ns, hk, hne, q⟩ := q
   obtain ⟨kv, g1, g2⟩ := hh _ _ e0
   obtain ⟨kz, lo, vs, r1, dd⟩ := b0x I g1
   obtain ⟨ep, da⟩ := dd.dictAt
   have e1 : vs.map (·.1) = ns.map Sum.inl := by
    rw [← r1.keys]
    exact (a3t g2).trans hk
   exact b5S (I.ok.hd hc) da lo e1 hne fun h' m t tk k m1 m2 => ⟨.int m, H, I.kept k, ⟨_, rfl⟩, en _ _ M H Kp.refl hh a0i (q m m1 m2)⟩
  ·exact q.elim
 ·exact q.elim
noncomputable def b1t (M : MH) (x : T) : Prop := match x with
 | .adr p => (match M p with | some (.fk _) => True | _ => False)
 | _ => False
noncomputable def b9P (td tk tx : TE3) : TE3 := fun ρ M Q => td ρ M fun x M1 => b1t M1 x ∧ tk ρ M1 fun k M2 => tx ρ M2 fun z M3 => match x with
 | .adr p => (match M3 p with
   | some (.fk kvs) => ∃ kk, k = keyT kk ∧ Q ((valT kvs kk).getD z) M3
   | _ => False)
 | _ => False
theorem b3X {K : PySem.W.Frag} {H : Hp} {M : MH} {x : T} {v : V} (hh : HR K H M) (r : Rep K H v x) (d : b1t M x) : ∃ a, v = .ref a ∧ IsD H a := by
 cases x with
 | adr p =>
   obtain rfl := a0o r
   unfold b1t at d
   dsimp only at d
   cases e : M p with
   | none => rw [e] at d; exact d.elim
   | some o =>
     rw [e] at d
     cases o with
     | fk kvs => obtain ⟨xs, g1, _⟩ := hh _ _ e; exact ⟨p, rfl, .inl ⟨xs, g1⟩⟩
     | _ => exact d.elim
 | _ => exact d.elim
theorem c0S {o : Expr} {td tk tx : TE3} {apos cpos : Pos} (hu : X.A.units + 64 < cLine) (ho : HE X o td) (he : HE X e tk) (hf : HE X f tx)
  (m1 : attributeBase o "get" X.env (eval o X.env) = eval o X.env := by rfl)
  (m2 : ((backTo cpos (starEach [e, f] X.env)).all (fun x => !x.1) && (backToKw cpos (keywordEach [] X.env)).all (fun x => x.1.isSome)
   && decide (([e, f] : List Expr).length + ([] : List Keyword).length + (if ([] : List Keyword).isEmpty then 0 else 1) < 30)) = true := by rfl)
  (m3 : (apos.endLine == cpos.line) = true := by rfl) (m4 : backTo cpos (starEach [e, f] X.env) = [(false, eval e X.env), (false, eval f X.env)] := by rfl) :
  HE X (.Call (.Attribute o "get" apos) [e, f] [] cpos) (b9P td tk tx) := fun ρ M Q h =>
 (b1d (by lia) (ho.d (ρ := ρ)) (he.d (ρ := ρ)) (hf.d (ρ := ρ)) ⟨m1, m2, m3, m4⟩).imp fun σ H Q2 ⟨hr, hh, en⟩ => ⟨M, _, h, hr, hh, fun x v M1 H1 k1 h1 r1 q1 => by
  obtain ⟨hd, q1⟩ := q1
  obtain ⟨a, rfl, isd⟩ := b3X h1 r1 hd
  refine ⟨a, rfl, isd, M1, _, q1, hr.kp k1, h1, fun y v2 M2 H2 k2 h2 r2 q2 => ⟨M2, _, q2, hr.kp (k1.trans k2), h2, fun z v3 M3 H3 k3 h3 r3 q3 => ?_⟩⟩
  cases x with
  | adr p =>
    cases r1
    dsimp only at q3
    split at q3
    ·rename_i kvs e
     obtain ⟨kk, rfl, q3⟩ := q3
     obtain rfl := a4L r2
     obtain ⟨xs, g1, g2⟩ := h3 _ _ e
     refine ⟨_, .inl ⟨xs, kk, g1, rfl, rfl⟩, en _ _ M3 H3 ((k1.trans k2).trans k3) h3 ?_ q3⟩
     have hv := g2.val kk
     cases ev : valT kvs kk with
     | none => rw [ev] at hv; rw [hv]; exact r3
     | some t =>
       rw [ev] at hv
       obtain ⟨u, e1, e2⟩ := hv
       rw [e1]; exact e2
    ·exact q3.elim
  | _ => exact hd.elim⟩
end
noncomputable def b0R (te : TE3) : TE3 := fun ρ M Q => te ρ M fun x M1 => match x with
 | .adr p => (match M1 p with
   | some (.lst ts) => ∃ ns : List Int, ts = ns.map .int ∧ ns.length < 60 ∧ Q (.int (ns.foldl step_dedup []).length) M1
   | _ => False)
 | _ => False
section
variable {X : Cx} {e : Expr} {te : TE3} {p p2 pos pos2 : Pos}
theorem b4f (hc : X.calm = true) (he : HE X e te) (hm : X.mg "len" = none) (hm2 : X.mg "set" = none) (hg : Gl X "len" := by rfl) (hg2 : Gl X "set" := by rfl)
  (h1 : starEach [e] X.env = (false, eval e X.env) :: starEach [] X.env := by rfl) (h2 : (backTo pos2 (starEach [] X.env)).any (·.1) = false := by rfl)
  (h3 : starEach [.Call (.Name "set" p2) [e] [] pos2] X.env = (false, eval (.Call (.Name "set" p2) [e] [] pos2) X.env) :: starEach [] X.env := by rfl) (h4 : (backTo pos (starEach [] X.env)).any (·.1) = false := by rfl) :
  HE X (.Call (.Name "len" p) [.Call (.Name "set" p2) [e] [] pos2] [] pos) (b0R te) := by
 intro ρ M Q h pins s σ H Q2 I bb
 obtain ⟨hr, hh, en⟩ := bb
 refine wpAny_Call_Name_kw (a3j I hg hm boot_len ?_)
 refine PyProof.Rows.callWith_builtin1 ?_ h3 h4
 rw [h3]
 show wpAny _ _ (spliced ((false, eval (.Call (.Name "set" p2) [e] [] pos2) X.env) :: backTo pos (starEach [] X.env))) _ _ s
 refine Calls.spliced_cons ?_
 refine wpAny_Call_Name_kw (a3j I hg2 hm2 PyProof.Rows.boot_set ?_)
 refine PyProof.Rows.callWith_type1 ?_ h1 h2
 rw [h1]
 show wpAny _ _ (spliced ((false, eval e X.env) :: backTo pos2 (starEach [] X.env))) _ _ s
 refine Calls.spliced_cons (thn (he ρ M _ h pins s σ H (fun v H1 => ∃ t M1, Kp X.K H H1 ∧ HR X.K H1 M1 ∧ Rep X.K H1 v t ∧ (match t with
  | .adr p => (match M1 p with
    | some (.lst ts) => ∃ ns : List Int, ts = ns.map .int ∧ ns.length < 60 ∧ Q (.int (ns.foldl step_dedup []).length) M1
    | _ => False)
  | _ => False)) I ⟨hr, hh, fun t v M1 H1 k1 h1 r1 q1 => ⟨t, M1, k1, h1, r1, q1⟩⟩) fun u s1 ⟨v, H1, I1, r, t, M1, k1, hh1, r1, q1⟩ => ?_)
 refine Calls.spliced_nil ?_
 split at q1
 ·rename_i a
  split at q1
  ·rename_i ts e0
   obtain ⟨ns, rfl, h60, q⟩ := q1
   obtain rfl := a0o r1
   cases r
   obtain ⟨xs, g1, g2⟩ := hh1 _ _ e0
   obtain rfl := a8D g2
   obtain ⟨its, r', pl, hz⟩ := I1.list (SqL.of g1)
   have hlen : its.length = ns.length := by have := r'.length; rw [List.length_map] at this; lia
   refine call_set_list (items := its.toArray) (ns := ns) (I1.ok.hd hc) pl.isList (by simpa using a6P r') (by simp only [List.size_toArray]; rw [hlen]; exact Nat.lt_trans (Nat.succ_lt_succ h60) (by decide)) fun h' tk hs hk => ?_
   refine Calls.spliced_nil ?_
   obtain ⟨o, es, ep, t, ho, hex, hd, _, _, hsz, hf, hn⟩ := hs
   have kk : ∀ b u, s1.heap.get? b = some u → h'.get? b = some u := fun b u e => hk b u (Heap.lt_size e) e
   refine call_len_set (s := { s1 with heap := h', toks := tk }) ho hex hd hf (by have : es.size < 4096 := hsz; omega) ?_
   have hfm : firstMet (fun i => ns.getD i 0) its.toArray.size = ns.foldl step_dedup [] := by
    unfold firstMet
    rw [List.size_toArray, hlen]
    congr 1
    apply List.ext_getElem
    ·simp
    ·intro i i1 i2
     rw [List.getElem_map, List.getElem_range, List.getD_eq_getElem?_getD, List.getElem?_eq_getElem i2]; rfl
   rw [hfm] at hn
   rw [← hn] at q
   exact ⟨.int es.size, H1, I1.kept kk, ⟨_, rfl⟩, en _ _ M1 H1 k1 hh1 a0i q⟩
  ·exact q1.elim
 ·exact q1.elim
end
theorem b6O (x : Int) : ∀ (ns acc : List Int), x ∈ ns.foldl step_dedup acc ↔ x ∈ acc ∨ x ∈ ns
 | [], acc => by simp
 | n :: ns, acc => by
   rw [List.foldl_cons, b6O x ns]
   by_cases c : acc.any (· == n) = true
   ·rw [show step_dedup acc n = acc from if_pos c]
    obtain ⟨y, hy, e⟩ := List.any_eq_true.mp c
    have e : y = n := by simpa using e
    subst e
    constructor
    ·rintro (h | h)
     ·exact .inl h
     ·exact .inr (.tail _ h)
    ·rintro (h | h)
     ·exact .inl h
     ·rcases List.mem_cons.mp h with z | z
      ·rw [z]; exact .inl hy
      ·exact .inr z
   ·rw [show step_dedup acc n = acc ++ [n] from if_neg c, List.mem_append, List.mem_singleton, List.mem_cons]
    constructor
    ·rintro ((h | h) | h)
     ·exact .inl h
     ·exact .inr (.inl h)
     ·exact .inr (.inr h)
    ·rintro (h | h | h)
     ·exact .inl (.inl h)
     ·exact .inl (.inr h)
     ·exact .inr h
theorem b7F {ns : List Int} {m : Nat} (h : (ns.foldl step_dedup []).length < m) : ∃ k : Nat, 1 ≤ k ∧ k ≤ m ∧ (k : Int) ∉ ns := by
 rcases Classical.em (∃ k : Nat, 1 ≤ k ∧ k ≤ m ∧ (k : Int) ∉ ns) with z | z
 ·exact z
 ·exfalso
  have hall : ∀ k : Nat, 1 ≤ k → k ≤ m → (k : Int) ∈ ns := fun k h1 h2 => Classical.not_not.mp fun y => z ⟨k, h1, h2, y⟩
  have nd : ((List.range m).map fun (i : Nat) => ((i : Int) + 1)).Nodup := List.pairwise_map.mpr (List.nodup_range.imp fun h e => h (by lia))
  have := List.Nodup.length_le_of_subset nd (l₂ := ns.foldl step_dedup []) fun x hx => by
   obtain ⟨i, hi, rfl⟩ := List.mem_map.mp hx
   have hi := List.mem_range.mp hi
   refine (b6O _ _ _).mpr (.inr ?_)
   have := hall (i + 1) (by lia) (by lia)
   rwa [show ((i + 1 : Nat) : Int) = (i : Int) + 1 by lia] at this
  rw [List.length_map, List.length_range] at this
  lia
local macro_rules | `(tactic| walk_at "3") => `(tactic| first | exact Or.inl rfl | exact Or.inr (Or.inl rfl) | exact Or.inr (Or.inr rfl))
local macro_rules | `(tactic| walk_at "2") => `(tactic| first | exact Or.inl rfl | exact Or.inr rfl)
local macro_rules | `(tactic| walk_at "4") => `(tactic| first | exact .inl rfl | exact .inr rfl | assumption)
local macro_rules | `(tactic| walk_at "rd") => `(tactic| (try simp only [ b7O, rIn3, b9J, a7i, tCB3, b3d, b9M, b5l, tK, tOp3, tUn3, a3l, b7w, b6J, b9O, b6M, b9U, b3c, b9G, b9L, b9V, tOr3, b9K, tIf3, b0S, b9F, b9N, b6N, tLM3, b6L, b6K, b6I, tLMS, b0c, b8F, b9Q, b6e, b9R, tDGK, sDPK, b9E,
 a9h, a9k, b8N, b4n, c0X, a8t, tSl3, b9I, b5Z, tNo3, tPt3, c0O, b7R, tWk, tDGF, b9P, b0R, c0P, b3s, a7t, c0Q, b4a, b8J, b8I, b7Y, b7P, b7S, c0i, c0h, c0g, rInt, b7Q, rIx3, b7T, b7Z, b0b, b7U, b7X, b5z, a7u, rLt3, rLe3, rGt3, rGe3, b0d, rEq3, rNe3, rEqv, truT, b6c,
 a9S, a9R, b2h, b2p, b2o, b3y, b3T, List.getElem?_cons_zero, List.getElem?_cons_succ, List.set_cons_zero, List.set_cons_succ, List.length_cons, List.length_nil, List.map_nil, List.isEmpty_cons, List.isEmpty_nil, a0c, a8o, b6z, c1i, c2k, c1X, a9A, a4o,
 b3v, b5A, b3u, b0e, b2l, a1I, a5x, b8S, b6t, b2K, b4H, a4Y, b8Q, a5V, b4x, b6r, b4w, id, Bool.not_true, Bool.not_false, Bool.and_true, Bool.true_and, Bool.or_false, Bool.false_or,
 decide_eq_true_eq, Bool.not_eq_true', decide_eq_false_iff_not, Bool.false_eq_true, ↓reduceIte, if_true, if_false, true_and, and_true, and_self, Nat.zero_le, not_true_eq_false, not_false_eq_true, List.length_map, List.length_append, List.length_singleton]))
noncomputable abbrev top (i : Nat) : Stmt := PySem.Challenge.pw_loopwright_k89_whole_what_sums_are_like.main.body.getD i (.Pass ⟨0, 0, 0, 0⟩)
noncomputable abbrev a2a : Stmt := top 6
noncomputable abbrev a2x : Stmt := top 7
noncomputable abbrev a2v : Stmt := top 8
noncomputable abbrev a3C : Stmt := top 9
noncomputable abbrev a2b : Stmt := top 10
noncomputable abbrev a1G : Stmt := top 11
noncomputable abbrev a2u : Stmt := top 12
noncomputable abbrev a0x : Stmt := top 17
noncomputable abbrev a4J : Stmt := top 18
noncomputable abbrev a1L : Stmt := top 19
noncomputable abbrev a0O : Stmt := top 25
noncomputable abbrev a1r : Stmt := top 26
noncomputable abbrev a1s : Stmt := top 27
noncomputable abbrev a0R : Stmt := top 28
noncomputable abbrev a1u : Stmt := top 29
noncomputable abbrev a1i : Stmt := top 30
noncomputable abbrev a0L : Stmt := top 31
noncomputable abbrev a1d : Stmt := top 33
noncomputable abbrev a1M : Stmt := top 34
noncomputable abbrev a1w : Stmt := top 35
noncomputable abbrev a1H : Stmt := top 36
noncomputable abbrev a1N : Stmt := top 37
noncomputable abbrev a1v : Stmt := top 38
noncomputable abbrev a4I : Stmt := top 39
theorem a8z : FnScope ["strands", "letter"] ["strands", "letter"] (a0b a2a) := ⟨rfl, rfl, rfl, by decide +kernel, rfl, by decide +kernel, by decide +kernel⟩
theorem b2k : FnScope ["strands", "word", "most"] ["strands", "word", "most"] (a0b a2x) := ⟨rfl, rfl, rfl, by decide +kernel, rfl, by decide +kernel, by decide +kernel⟩
theorem a9X : FnScope ["plait"] ["plait"] (a0b a2v) := ⟨rfl, rfl, rfl, by decide +kernel, rfl, by decide +kernel, by decide +kernel⟩
theorem b3l : FnScope ["plait"] ["plait"] (a0b a3C) := ⟨rfl, rfl, rfl, by decide +kernel, rfl, by decide +kernel, by decide +kernel⟩
theorem a8A : FnScope ["row", "at"] ["row", "at"] (a0b a2b) := ⟨rfl, rfl, rfl, by decide +kernel, rfl, by decide +kernel, by decide +kernel⟩
theorem a8y : FnScope ["order"] ["order"] (a0b a1G) := ⟨rfl, rfl, rfl, by decide +kernel, rfl, by decide +kernel, by decide +kernel⟩
theorem a3a : FnScope ["plait", "standing", "letter"] ["plait"] (a0b a2u) := ⟨rfl, rfl, rfl, by decide +kernel, rfl, by decide +kernel, by decide +kernel⟩
theorem a4g : FnScope ["counts"] ["counts"] (a0b a0x) := ⟨rfl, rfl, rfl, by decide +kernel, rfl, by decide +kernel, by decide +kernel⟩
theorem a5r : FnScope ["one", "other", "counts", "power", "count"] ["one", "other"] (a0b a4J) := ⟨rfl, rfl, rfl, by decide +kernel, rfl, by decide +kernel, by decide +kernel⟩
theorem a1a : FnScope ["one", "other", "counts", "power", "count", "other_power", "other_count", "both"] ["one", "other"] (a0b a1L) := ⟨rfl, rfl, rfl, by decide +kernel, rfl, by decide +kernel, by decide +kernel⟩
theorem a4H : FnScope ["row", "column"] ["row", "column"] (a0b a0O) := ⟨rfl, rfl, rfl, by decide +kernel, rfl, by decide +kernel, by decide +kernel⟩
theorem a1c : FnScope ["row", "letter", "at", "left", "right", "pair"] ["row", "letter"] (a0b a1r) := ⟨rfl, rfl, rfl, by decide +kernel, rfl, by decide +kernel, by decide +kernel⟩
theorem a2w : FnScope ["plait", "places", "rows", "letter"] ["plait"] (a0b a1s) := ⟨rfl, rfl, rfl, by decide +kernel, rfl, by decide +kernel, by decide +kernel⟩
theorem a0y : FnScope ["rows", "whole", "sign", "column", "here", "rest"] ["rows"] (a0b a0R) := ⟨rfl, rfl, rfl, by decide +kernel, rfl, by decide +kernel, by decide +kernel⟩
theorem a2L : FnScope ["whole", "least", "sign"] ["whole"] (a0b a1u) := ⟨rfl, rfl, rfl, by decide +kernel, rfl, by decide +kernel, by decide +kernel⟩
theorem a1T : FnScope ["plait", "table", "places", "rows", "row"] ["plait"] (a0b a1i) := ⟨rfl, rfl, rfl, by decide +kernel, rfl, by decide +kernel, by decide +kernel⟩
theorem a5h : FnScope ["plait"] ["plait"] (a0b a0L) := ⟨rfl, rfl, rfl, by decide +kernel, rfl, by decide +kernel, by decide +kernel⟩
theorem a5H : FnScope ["script", "k"] ["script", "k"] (a0b a1d) := ⟨rfl, rfl, rfl, by decide +kernel, rfl, by decide +kernel, by decide +kernel⟩
theorem a4h : FnScope ["script", "k", "cell"] ["script", "k"] (a0b a1M) := ⟨rfl, rfl, rfl, by decide +kernel, rfl, by decide +kernel, by decide +kernel⟩
theorem a2g : FnScope ["state", "many", "found", "mixed"] ["state", "many"] (a0b a1w) := ⟨rfl, rfl, rfl, by decide +kernel, rfl, by decide +kernel, by decide +kernel⟩
theorem a8B : FnScope ["state", "strands", "count"] ["state", "strands", "count"] (a0b a1H) := ⟨rfl, rfl, rfl, by decide +kernel, rfl, by decide +kernel, by decide +kernel⟩
theorem a4i : FnScope ["state", "least", "most", "letters", "strands"] ["state", "least", "most", "letters"] (a0b a1N) := ⟨rfl, rfl, rfl, by decide +kernel, rfl, by decide +kernel, by decide +kernel⟩
theorem a0V : FnScope ["places", "seen", "many", "start", "here"] ["places"] (a0b a1v) := ⟨rfl, rfl, rfl, by decide +kernel, rfl, by decide +kernel, by decide +kernel⟩
theorem a5G : FnScope ["script", "strands", "word", "total", "one", "top", "counts"] ["script"] (a0b a4I) := ⟨rfl, rfl, rfl, by decide +kernel, rfl, by decide +kernel, by decide +kernel⟩
structure Zs (K : PySem.W.Frag) (mg : Str → Option Value) : Prop where
 b_abs : mg "abs" = none
 b_all : mg "all" = none
 b_dict : mg "dict" = none
 b_enumerate : mg "enumerate" = none
 b_int : mg "int" = none
 b_len : mg "len" = none
 b_list : mg "list" = none
 b_max : mg "max" = none
 b_min : mg "min" = none
 b_range : mg "range" = none
 b_set : mg "set" = none
 b_sorted : mg "sorted" = none
 b_sum : mg "sum" = none
 b_tuple : mg "tuple" = none
 c_DOWN : ∃ u : Addr, mg "DOWN" = some (.ref u) ∧ ∀ H, Rep K H (.ref u) (.tup [.tup [.int (-1), .int (1)]])
 c_LESS_DOWN : ∃ u : Addr, mg "LESS_DOWN" = some (.ref u) ∧ ∀ H, Rep K H (.ref u) (.tup [.tup [.int (-1), .int (-1)], .tup [.int (0), .int (1)]])
 c_LESS_ONE : ∃ u : Addr, mg "LESS_ONE" = some (.ref u) ∧ ∀ H, Rep K H (.ref u) (.tup [.tup [.int (0), .int (-1)]])
 c_LESS_UP : ∃ u : Addr, mg "LESS_UP" = some (.ref u) ∧ ∀ H, Rep K H (.ref u) (.tup [.tup [.int (0), .int (1)], .tup [.int (1), .int (-1)]])
 c_MOST_LETTERS : ∃ tk, mg "MOST_LETTERS" = some (.int 16 tk)
 c_MOST_STRANDS : ∃ tk, mg "MOST_STRANDS" = some (.int 6 tk)
 c_NOUGHT : ∃ u : Addr, mg "NOUGHT" = some (.ref u) ∧ ∀ H, Rep K H (.ref u) (.tup [])
 c_ONE : ∃ u : Addr, mg "ONE" = some (.ref u) ∧ ∀ H, Rep K H (.ref u) (.tup [.tup [.int (0), .int (1)]])
 c_UP : ∃ u : Addr, mg "UP" = some (.ref u) ∧ ∀ H, Rep K H (.ref u) (.tup [.tup [.int (1), .int (1)]])
noncomputable def a2k : Sp3 := fun ts M Q => match ts with
 | [.int n, .int l] => Q (.bl (a6t n l)) M
 | _ => False
theorem a8N {P : Program} {w : World} {K : PySem.W.Frag} {mg : Str → Option Value} {base : Heap} {f : Addr} {fd : FuncData} {n : Nat}  (F : Fun K "is_letter" "is_letter" a2a f fd) (hm : mg "is_letter" = some (.ref f)) (hb : a1K K fd ["strands", "letter"] []) (Z : Zs K mg)  : Df P w K mg base (n + 1) "is_letter" ["strands", "letter"] a2k := by
 refine F.dfn hm hb a8z (by intro ts M Q h; unfold a2k at h; first | (split at h <;> first | rfl | exact h.elim) | (obtain ⟨_, _, _, _, _, rfl, _⟩ := h; rfl) | (obtain ⟨_, _, _, _, rfl, _⟩ := h; rfl) | (obtain ⟨_, _, _, rfl, _⟩ := h; rfl) | (obtain ⟨_, _, rfl, _⟩ := h; rfl) | (obtain ⟨_, rfl, _⟩ := h; rfl)) ⟨_, fun cdv A outer s H E hr => (@a0l _ _ _ (@a1h _ _ _ _ (@b8L _ _ _ _ _ _ _ _ _ _ _ _ b3H a8L a0j (@a1f _ _ _ _ _ _ _ _ _ a2V Z.b_abs PyProof.Rows.boot_abs (@a0a _ _ _ _ _ (@hv _ 1 _ _ (by rfl) (by walk_at "3") (by decide) (by decide)) a0f (by rfl)) (by rfl) (by decide) (by decide) (by rfl) (by rfl)) (@hv _ 0 _ _ (by rfl) (by walk_at "3") (by decide) (by decide)) (by with_unfolding_all rfl)))), fun ts M Q h => ?_⟩
 unfold a2k a6t at h
 split at h
 ·rename_i n l
  walk_at "rd"
  refine ite2 (fun c => a0B ?_) (fun c => a0B ?_)
  ·simpa [show 1 ≤ l.natAbs by lia] using h
  ·simpa [show ¬ 1 ≤ l.natAbs by lia] using h
 ·exact h.elim
noncomputable def a3A : Sp3 := fun ts M Q => match ts with
 | [.int n, .tup w, .int k] => ∃ ws : List Int, w = ws.map .int ∧ ws.length < 10000 ∧ Q (.bl (isWd n ws k)) M
 | _ => False
theorem b2u {P : Program} {w : World} {K : PySem.W.Frag} {mg : Str → Option Value} {base : Heap} {f : Addr} {fd : FuncData} {n : Nat}  (F : Fun K "is_word" "is_word" a2x f fd) (hm : mg "is_word" = some (.ref f)) (hb : a1K K fd ["strands", "word", "most"] []) (Z : Zs K mg) (D_is_letter : Df P w K mg base n "is_letter" ["strands", "letter"] a2k) : Df P w K mg base (n + 1) "is_word" ["strands", "word", "most"] a3A := by
 obtain ⟨tk_MOST_STRANDS, c_MOST_STRANDS⟩ := Z.c_MOST_STRANDS
 refine F.dfn hm hb b2k (by intro ts M Q h; unfold a3A at h; first | (split at h <;> first | rfl | exact h.elim) | (obtain ⟨_, _, _, _, _, rfl, _⟩ := h; rfl) | (obtain ⟨_, _, _, _, rfl, _⟩ := h; rfl) | (obtain ⟨_, _, _, rfl, _⟩ := h; rfl) | (obtain ⟨_, _, rfl, _⟩ := h; rfl) | (obtain ⟨_, rfl, _⟩ := h; rfl)) ⟨_, fun cdv A outer s H E hr => (@a0d _ _ _ _ _ (@s_if _ _ _ _ _ _ _ _ (@HW.ht _ _ _ (@w_or _ _ _ _ _ _ _ (@b6h _ _ _ _ (@b6g _ _ _ _ _ _ _ _ _ _ _ _ b3H b3H a0j (@hv _ 0 _ _ (by rfl) (by walk_at "3") (by decide) (by decide)) (@b4g _ _ _ _ _ c_MOST_STRANDS (by rfl) (by decide)) (by with_unfolding_all rfl))) (@b7r _ _ _ _ (@a1W _ _ _ _ _ _ _ _ b1i (@a1f _ _ _ _ _ _ _ _ _ a2U Z.b_len PySem.boot_len (@a0a _ _ _ _ _ (@hv _ 1 _ _ (by rfl) (by walk_at "3") (by decide) (by decide)) a0f (by rfl)) (by rfl) (by decide) (by decide) (by rfl) (by rfl)) (@hv _ 2 _ _ (by rfl) (by walk_at "3") (by decide) (by decide)) (@a1C _ _ (by decide) (by decide)))))) (@a0l _ _ _ (@a1h _ _ _ _ h_bl)) a2E) (@a0l _ _ _ (@a1h _ _ _ _ (@a1f _ _ _ _ _ _ _ _ _ (@b4X _ rfl) Z.b_all PyProof.Rows.boot_all (@a0a _ _ _ _ _ (@a3v _ _ _ _ _ _ _ _ _ _ _ _ _ _ rfl (@a3K _ _ _ _ (@hv _ 1 _ _ (by rfl) (by walk_at "3") (by decide) (by decide))) (@a0T _ (a0b a2x) _ (["strands", "word", "most"]) (["letter", "strands"]) ([none, some 0]) (by decide +kernel) rfl rfl) a2c (fun _ _ _ _ _ => @a1y _ _ 0 _ (show List.Nodup (["letter", "strands"] : List Str) by decide +kernel) rfl (Or.inl rfl) (Or.inr rfl)) (fun _ _ _ _ _ => a2P) (fun _ _ _ _ _ => (@a0r _ _ _ _ _ _ _ _ _ _ D_is_letter hr (@a0a _ _ _ _ _ (@hv _ 1 _ _ (by rfl) (by walk_at "3") (by decide) (by decide)) (@a0a _ _ _ _ _ (@hv _ 0 _ _ (by rfl) (by walk_at "3") (by decide) (by decide)) a0f (by rfl)) (by rfl)) (by rfl) (by decide) (by rfl) (by rfl))) (by intro _; rfl)) a0f (by rfl)) (by rfl) (by decide) (by decide) (by rfl) (by rfl))))), fun ts M Q h => ?_⟩
 unfold a3A at h
 split at h
 ·rename_i n w k
  obtain ⟨ws, rfl, hl, h⟩ := h
  unfold isWd at h
  walk_at "rd"
  refine ite2 (fun c1 => ite2 (fun c2 => ?_) fun c2 => ite2 (fun c3 => ?_) fun c3 => ?_) fun c1 => ?_
  ·rw [decide_eq_false c2, Bool.and_false, Bool.false_and] at h
   exact a0B h
  ·rw [decide_eq_false (show ¬ (ws.length : Int) ≤ k by lia), Bool.and_false, Bool.false_and] at h
   exact a0B h
  ·rw [decide_eq_true c1, decide_eq_true (show n ≤ 6 by lia), decide_eq_true (show (ws.length : Int) ≤ k by lia)] at h
   refine ⟨fun i ys M' => ys = ((ws.take i).map (a6t n)).map T.bl ∧ M' = M, ⟨rfl, rfl⟩, fun _ _ _ _ => trivial, Nat.lt_of_le_of_lt (by lia : ws.length ≤ 10000) (by decide), ?_, ?_⟩
   ·rintro i x ys M' hx ⟨rfl, rfl⟩
    obtain ⟨l, hl', rfl⟩ := a0W hx
    unfold a2k
    refine ⟨?_, rfl⟩
    rw [← a1p (a6t n) hl', List.map_append]; rfl
   ·rintro ys M' ⟨rfl, rfl⟩ p hp
    rw [List.take_length, a9A]
    refine a1j (M0 := M') ?_ (Sub.new hp)
    rw [List.all_map]
    exact h
  ·rw [decide_eq_false c1, Bool.false_and, Bool.false_and, Bool.false_and] at h
   exact a0B h
 ·exact h.elim
noncomputable def a2Z : Sp3 := fun ts M Q => match ts with
 | [.tup [.int n, .tup w]] => ∃ ws : List Int, w = ws.map .int ∧ ws.length < 10000 ∧ Q (.bl (isPl n ws)) M
 | _ => False
theorem b0j {P : Program} {w : World} {K : PySem.W.Frag} {mg : Str → Option Value} {base : Heap} {f : Addr} {fd : FuncData} {n : Nat}  (F : Fun K "is_plait" "is_plait" a2v f fd) (hm : mg "is_plait" = some (.ref f)) (hb : a1K K fd ["plait"] []) (Z : Zs K mg) (D_is_word : Df P w K mg base n "is_word" ["strands", "word", "most"] a3A) : Df P w K mg base (n + 1) "is_plait" ["plait"] a2Z := by
 obtain ⟨tk_MOST_LETTERS, c_MOST_LETTERS⟩ := Z.c_MOST_LETTERS
 refine F.dfn hm hb a9X (by intro ts M Q h; unfold a2Z at h; first | (split at h <;> first | rfl | exact h.elim) | (obtain ⟨_, _, _, _, _, rfl, _⟩ := h; rfl) | (obtain ⟨_, _, _, _, rfl, _⟩ := h; rfl) | (obtain ⟨_, _, _, rfl, _⟩ := h; rfl) | (obtain ⟨_, _, rfl, _⟩ := h; rfl) | (obtain ⟨_, rfl, _⟩ := h; rfl)) ⟨_, fun cdv A outer s H E hr => (@a0l _ _ _ (@a1h _ _ _ _ (@a0r _ _ _ _ _ _ _ _ _ _ D_is_word hr (@a0a _ _ _ _ _ (@h_ix _ _ _ _ _ _ (@hv _ 0 _ _ (by rfl) (by walk_at "3") (by decide) (by decide)) a0j (by intro _ _; rfl)) (@a0a _ _ _ _ _ (@h_ix _ _ _ _ _ _ (@hv _ 0 _ _ (by rfl) (by walk_at "3") (by decide) (by decide)) a0j (by intro _ _; rfl)) (@a0a _ _ _ _ _ (@b4g _ _ _ _ _ c_MOST_LETTERS (by rfl) (by decide)) a0f (by rfl)) (by rfl)) (by rfl)) (by rfl) (by decide) (by rfl) (by rfl)))), fun ts M Q h => ?_⟩
 unfold a2Z at h
 split at h
 ·rename_i n w
  obtain ⟨ws, rfl, hl, h⟩ := h
  walk_at "rd"
  refine ⟨ws, rfl, hl, ?_⟩
  rw [b8E]
  exact a0B h
 ·exact h.elim
noncomputable def a3o : Sp3 := fun ts M Q => match ts with
 | [.tup [.int n, .tup w]] => ∃ ws : List Int, w = ws.map .int ∧ PlOK n ws ∧ Q (.int ws.length) M
 | _ => False
theorem b3J {P : Program} {w : World} {K : PySem.W.Frag} {mg : Str → Option Value} {base : Heap} {f : Addr} {fd : FuncData} {n : Nat}  (F : Fun K "looked" "looked" a3C f fd) (hm : mg "looked" = some (.ref f)) (hb : a1K K fd ["plait"] []) (Z : Zs K mg) (D_is_plait : Df P w K mg base n "is_plait" ["plait"] a2Z) : Df P w K mg base (n + 1) "looked" ["plait"] a3o := by
 refine F.dfn hm hb b3l (by intro ts M Q h; unfold a3o at h; first | (split at h <;> first | rfl | exact h.elim) | (obtain ⟨_, _, _, _, _, rfl, _⟩ := h; rfl) | (obtain ⟨_, _, _, _, rfl, _⟩ := h; rfl) | (obtain ⟨_, _, _, rfl, _⟩ := h; rfl) | (obtain ⟨_, _, rfl, _⟩ := h; rfl) | (obtain ⟨_, rfl, _⟩ := h; rfl)) ⟨_, fun cdv A outer s H E hr => (@a0d _ _ _ _ _ (@s_if _ _ _ _ _ _ _ _ (@b6h _ _ _ _ (@a5S _ _ _ (@a0r _ _ _ _ _ _ _ _ _ _ D_is_plait hr (@a0a _ _ _ _ _ (@hv _ 0 _ _ (by rfl) (by walk_at "3") (by decide) (by decide)) a0f (by rfl)) (by rfl) (by decide) (by rfl) (by rfl)) (by intro _; rfl))) (@a0l _ _ _ b7H) a2E) (@a0l _ _ _ (@a1h _ _ _ _ (@a1f _ _ _ _ _ _ _ _ _ a2U Z.b_len PySem.boot_len (@a0a _ _ _ _ _ (@h_ix _ _ _ _ _ _ (@hv _ 0 _ _ (by rfl) (by walk_at "3") (by decide) (by decide)) a0j (by intro _ _; rfl)) a0f (by rfl)) (by rfl) (by decide) (by decide) (by rfl) (by rfl))))), fun ts M Q h => ?_⟩
 unfold a3o at h
 split at h
 ·rename_i n w
  obtain ⟨ws, rfl, ok, h⟩ := h
  walk_at "rd"
  refine ⟨ws, rfl, by have := ok.2.2.1; lia, ?_⟩
  rw [ok.is]
  walk_at "rd"
  exact a0B (M := M) h
 ·exact h.elim
noncomputable def a2G : Sp3 := fun ts M Q => match ts with
 | [.tup w, .int k] => ∃ ws : List Int, w = ws.map .int ∧ 0 ≤ k ∧ k + 1 < ws.length ∧ ws.length < 10000 ∧ Q (.tup ((a3Q ws k.toNat).map .int)) M
 | _ => False
theorem a8O {P : Program} {w : World} {K : PySem.W.Frag} {mg : Str → Option Value} {base : Heap} {f : Addr} {fd : FuncData} {n : Nat}  (F : Fun K "exchanged" "exchanged" a2b f fd) (hm : mg "exchanged" = some (.ref f)) (hb : a1K K fd ["row", "at"] []) (Z : Zs K mg)  : Df P w K mg base (n + 1) "exchanged" ["row", "at"] a2G := by
 refine F.dfn hm hb a8A (by intro ts M Q h; unfold a2G at h; first | (split at h <;> first | rfl | exact h.elim) | (obtain ⟨_, _, _, _, _, rfl, _⟩ := h; rfl) | (obtain ⟨_, _, _, _, rfl, _⟩ := h; rfl) | (obtain ⟨_, _, _, rfl, _⟩ := h; rfl) | (obtain ⟨_, _, rfl, _⟩ := h; rfl) | (obtain ⟨_, rfl, _⟩ := h; rfl)) ⟨_, fun cdv A outer s H E hr => (@a0l _ _ _ (@a1h _ _ _ _ (@a0E _ _ _ _ _ _ _ _ a0I (@a0E _ _ _ _ _ _ _ _ a0I (@a3U _ _ _ _ _ _ _ _ _ (@hv _ 0 _ _ (by rfl) (by walk_at "3") (by decide) (by decide)) a5M (@a5c _ _ _ (@hv _ 1 _ _ (by rfl) (by walk_at "3") (by decide) (by decide)))) (@a7N _ _ _ _ _ (@a0a _ _ _ _ _ (@h_ix _ _ _ _ _ _ (@hv _ 0 _ _ (by rfl) (by walk_at "3") (by decide) (by decide)) (@a0E _ _ _ _ _ _ _ _ a0I (@hv _ 1 _ _ (by rfl) (by walk_at "3") (by decide) (by decide)) a0j) (by intro _ _; rfl)) (@a0a _ _ _ _ _ (@h_ix _ _ _ _ _ _ (@hv _ 0 _ _ (by rfl) (by walk_at "3") (by decide) (by decide)) (@hv _ 1 _ _ (by rfl) (by walk_at "3") (by decide) (by decide)) (by intro _ _; rfl)) a0f (by rfl)) (by rfl)))) (@a3U _ _ _ _ _ _ _ _ _ (@hv _ 0 _ _ (by rfl) (by walk_at "3") (by decide) (by decide)) (@a5c _ _ _ (@a0E _ _ _ _ _ _ _ _ a0I (@hv _ 1 _ _ (by rfl) (by walk_at "3") (by decide) (by decide)) a0j)) a5M)))), fun ts M Q h => ?_⟩
 unfold a2G at h
 split at h
 ·rename_i w k
  obtain ⟨ws, rfl, k0, k1, hl, h⟩ := h
  obtain ⟨i, rfl⟩ := Int.eq_ofNat_of_zero_le k0
  walk_at "rd"
  have a1 : atI (ws.map T.int) ((i : Int) + 1) = some (.int (ws.getD (i + 1) 0)) := by
   have := a5z ws ((i : Int) + 1) (by lia) (by lia)
   rwa [show ((i : Int) + 1).toNat = i + 1 by lia] at this
  have a2 : atI (ws.map T.int) (i : Int) = some (.int (ws.getD i 0)) := by
   have := a5z ws (i : Int) (by lia) (by lia)
   rwa [Int.toNat_natCast] at this
  have c1 : cutT (ws.map T.int) none (some (i : Int)) = (ws.take i).map T.int := by
   rw [b8U _ _ (by lia) (by rw [List.length_map]; lia), Int.toNat_natCast, List.map_take]
  have c2 : cutT (ws.map T.int) (some ((i : Int) + 2)) none = (ws.drop (i + 2)).map T.int := by
   have k1' : i + 1 < ws.length := by lia
   rw [b4N _ _ (by lia) (by rw [List.length_map]; lia), show ((i : Int) + 2).toNat = i + 2 by lia, List.map_drop]
  have l1 : (ws.take i).length = i := by rw [List.length_take]; lia
  have l2 : (ws.drop (i + 2)).length = ws.length - (i + 2) := List.length_drop ..
  simp only [a1, a2, c1, c2]
  walk_at "rd"
  refine ⟨by decide, a3s (by lia), a3s (by lia), ?_⟩
  have e : List.map T.int (List.take i ws) ++ [T.int (ws.getD (i + 1) 0), T.int (ws.getD i 0)] ++ List.map T.int (List.drop (i + 2) ws) = List.map T.int (a3Q ws i) := by
   rw [← a8s ws i (by lia)]
   simp
  rw [e]
  exact a0B h
 ·exact h.elim
noncomputable def a2F : Sp3 := fun ts M Q => match ts with
 | [.tup w] => ∃ ws : List Int, w = ws.map .int ∧ ws.length < 10000 ∧ (∀ s : Int, 0 ≤ s → s < ws.length → s ∈ ws) ∧ Q (.tup (((a0g ws.length).map fun s => ((ws.idxOf s : Nat) : Int)).map .int)) M
 | _ => False
theorem a8M {P : Program} {w : World} {K : PySem.W.Frag} {mg : Str → Option Value} {base : Heap} {f : Addr} {fd : FuncData} {n : Nat}  (F : Fun K "places_in" "places_in" a1G f fd) (hm : mg "places_in" = some (.ref f)) (hb : a1K K fd ["order"] []) (Z : Zs K mg)  : Df P w K mg base (n + 1) "places_in" ["order"] a2F := by
 refine F.dfn hm hb a8y (by intro ts M Q h; unfold a2F at h; first | (split at h <;> first | rfl | exact h.elim) | (obtain ⟨_, _, _, _, _, rfl, _⟩ := h; rfl) | (obtain ⟨_, _, _, _, rfl, _⟩ := h; rfl) | (obtain ⟨_, _, _, rfl, _⟩ := h; rfl) | (obtain ⟨_, _, rfl, _⟩ := h; rfl) | (obtain ⟨_, rfl, _⟩ := h; rfl)) ⟨_, fun cdv A outer s H E hr => (@a0l _ _ _ (@a1h _ _ _ _ (@a4Q _ _ _ _ _ _ _ _ _ a4c Z.b_tuple PyProof.Rows.boot_tuple (@a0a _ _ _ _ _ (@a3v _ _ _ _ _ _ _ _ _ _ _ _ _ _ rfl (@a5v _ _ _ _ _ _ Z.b_range (@a0a _ _ _ _ _ (@a1f _ _ _ _ _ _ _ _ _ a2U Z.b_len PySem.boot_len (@a0a _ _ _ _ _ (@hv _ 0 _ _ (by rfl) (by walk_at "3") (by decide) (by decide)) a0f (by rfl)) (by rfl) (by decide) (by decide) (by rfl) (by rfl)) a0f (by rfl)) (by rfl) (by rfl)) (@a0T _ (a0b a1G) _ ["order"] (["number", "order"]) ([none, some 0]) (by decide +kernel) rfl rfl) a2c (fun _ _ _ _ _ => @a1y _ _ 0 _ (show List.Nodup (["number", "order"] : List Str) by decide +kernel) rfl (Or.inl rfl) (Or.inr rfl)) (fun _ _ _ _ _ => a2P) (fun _ _ _ _ _ => (@b4e _ _ _ _ _ _ _ _ (@hv _ 1 _ _ (by rfl) (by walk_at "3") (by decide) (by decide)) (@a0a _ _ _ _ _ (@hv _ 0 _ _ (by rfl) (by walk_at "3") (by decide) (by decide)) a0f (by rfl)) (by rfl) (by rfl) (by rfl) (by rfl) (by rfl))) (by intro _; rfl)) a0f (by rfl)) (by rfl) (by decide) (by decide) (by rfl) (by rfl)))), fun ts M Q h => ?_⟩
 unfold a2F at h
 split at h
 ·rename_i w
  obtain ⟨ws, rfl, hl, hmm, h⟩ := h
  walk_at "rd"
  have lm : (ws.map T.int).length = ws.length := List.length_map ..
  refine ⟨by lia, by lia, fun i ys M2 => ys = (((a0g ws.length).take i).map fun s => ((ws.idxOf s : Nat) : Int)).map T.int ∧ M2 = M, ⟨rfl, rfl⟩, fun _ _ _ _ => trivial, by rw [a0H]; exact Nat.lt_of_le_of_lt (by lia : (ws.length : Int).toNat ≤ 10000) (by decide), ?_, ?_⟩
  ·rintro i x ys M2 hx ⟨rfl, rfl⟩
   rw [b7N] at hx
   obtain ⟨s, hs, rfl⟩ := a0W hx
   obtain ⟨s0, s1⟩ := a3D (List.mem_of_getElem? hs)
   walk_at "rd"
   refine ⟨hmm s s0 s1, ?_⟩
   rw [← a1p (fun s => ((ws.idxOf s : Nat) : Int)) hs, List.map_append]; rfl
  ·rintro ys M2 ⟨rfl, rfl⟩ q hq
   rw [a0H, List.take_of_length_le (by rw [a0e]; exact Nat.le_refl _)]
   exact a1j (M0 := M2) h (Sub.new hq)
 ·exact h.elim
noncomputable def a2Y : Sp3 := fun ts M Q => match ts with
 | [.tup [.int n, .tup w]] => ∃ ws : List Int, w = ws.map .int ∧ PlOK n ws ∧ Q (.tup ((a1B n ws).map .int)) M
 | _ => False
theorem b0i {P : Program} {w : World} {K : PySem.W.Frag} {mg : Str → Option Value} {base : Heap} {f : Addr} {fd : FuncData} {n : Nat}  (F : Fun K "order_of" "order_of" a2u f fd) (hm : mg "order_of" = some (.ref f)) (hb : a1K K fd ["plait"] []) (Z : Zs K mg) (D_looked : Df P w K mg base n "looked" ["plait"] a3o) (D_exchanged : Df P w K mg base n "exchanged" ["row", "at"] a2G) (D_places_in : Df P w K mg base n "places_in" ["order"] a2F) : Df P w K mg base (n + 1) "order_of" ["plait"] a2Y := by
 refine F.dfn hm hb a3a (by intro ts M Q h; unfold a2Y at h; first | (split at h <;> first | rfl | exact h.elim) | (obtain ⟨_, _, _, _, _, rfl, _⟩ := h; rfl) | (obtain ⟨_, _, _, _, rfl, _⟩ := h; rfl) | (obtain ⟨_, _, _, rfl, _⟩ := h; rfl) | (obtain ⟨_, _, rfl, _⟩ := h; rfl) | (obtain ⟨_, rfl, _⟩ := h; rfl)) ⟨_, fun cdv A outer s H E hr => (@a0d _ _ _ _ _ (@b0X _ _ _ _ (@a0r _ _ _ _ _ _ _ _ _ _ D_looked hr (@a0a _ _ _ _ _ (@hv _ 0 _ _ (by rfl) (by walk_at "3") (by decide) (by decide)) a0f (by rfl)) (by rfl) (by decide) (by rfl) (by rfl)) (by rfl)) (@a0d _ _ _ _ _ (@a1t _ _ _ _ 1 _ _ (@b0s _ _ _ _ _ _ _ Z.b_tuple Z.b_range (@a0a _ _ _ _ _ (@h_ix _ _ _ _ _ _ (@hv _ 0 _ _ (by rfl) (by walk_at "3") (by decide) (by decide)) a0j (by intro _ _; rfl)) a0f (by rfl)) (by rfl) (by rfl) (by rfl) (by rfl) (by rfl)) a3a.nd (by rfl) (by walk_at "2") (by rfl) (by walk_at "4")) (@a0d _ _ _ _ _ (@a8C _ _ _ _ _ _ _ _ PassesOwn.never rfl (@a3K _ _ _ _ (@h_ix _ _ _ _ _ _ (@hv _ 0 _ _ (by rfl) (by walk_at "3") (by decide) (by decide)) a0j (by intro _ _; rfl))) (@a2J _ _ 2 _ a3a.nd (by rfl) (by walk_at "2") (by walk_at "4")) (@a0l _ _ _ (@a1t _ _ _ _ 1 _ _ (@a0r _ _ _ _ _ _ _ _ _ _ D_exchanged hr (@a0a _ _ _ _ _ (@hv _ 1 _ _ (by rfl) (by walk_at "3") (by decide) (by decide)) (@a0a _ _ _ _ _ (@a0E _ _ _ _ _ _ _ _ a3q (@a1f _ _ _ _ _ _ _ _ _ a2V Z.b_abs PyProof.Rows.boot_abs (@a0a _ _ _ _ _ (@hv _ 2 _ _ (by rfl) (by walk_at "3") (by decide) (by decide)) a0f (by rfl)) (by rfl) (by decide) (by decide) (by rfl) (by rfl)) a0j) a0f (by rfl)) (by rfl)) (by rfl) (by decide) (by rfl) (by rfl)) a3a.nd (by rfl) (by walk_at "2") (by rfl) (by walk_at "4"))) (by intro _; rfl)) (@a0l _ _ _ (@a1h _ _ _ _ (@a0r _ _ _ _ _ _ _ _ _ _ D_places_in hr (@a0a _ _ _ _ _ (@hv _ 1 _ _ (by rfl) (by walk_at "3") (by decide) (by decide)) a0f (by rfl)) (by rfl) (by decide) (by rfl) (by rfl))))))), fun ts M Q h => ?_⟩
 unfold a2Y at h
 split at h
 ·rename_i n w
  obtain ⟨ws, rfl, ok, h⟩ := h
  obtain ⟨o1, o2, o3, o4⟩ := id ok
  walk_at "rd"
  refine ⟨ws, rfl, ok, ?_⟩
  walk_at "rd"
  refine ⟨⟨by lia, by lia⟩, ?_⟩
  refine ⟨fun i ρ M' => ∃ a, ρ = [some (T.tup [T.int n, T.tup (ws.map T.int)]), some (T.tup ((a2D n (ws.take i)).map T.int)), a] ∧ Sub M M',
   ⟨none, by rw [a6D]; rfl, Sub.refl⟩, fun _ _ _ _ => trivial, ?_, ?_⟩
  ·rintro i x ρ M' hx ⟨a, rfl, hS⟩
   obtain ⟨l, hl, rfl⟩ := a0W hx
   have lk : LetOK n l := o4 l (List.mem_of_getElem? hl)
   unfold LetOK at lk
   have sl := a1q n (ws.take i)
   walk_at "rd"
   refine ⟨_, rfl, by lia, by rw [sl]; lia, by rw [sl]; lia, some (.int l), ?_, hS⟩
   rw [a9T hl, show ((l.natAbs : Int) - 1).toNat = l.natAbs - 1 by lia, a9Q _ _ (by lia)]
  ·rintro ρ M' ⟨a, rfl, hS⟩
   rw [List.length_map, List.take_length]
   walk_at "rd"
   refine ⟨_, rfl, by rw [a1q]; lia, ?_, ?_⟩
   ·intro s s0 s1
    rw [a1q] at s1
    exact b3h n ws o4 s s0 (by lia)
   ·have e : (((a2D n ws).length : Nat) : Int) = n := by rw [a1q]; lia
    rw [e]
    exact a1j h hS
 ·exact h.elim
noncomputable def a0Q : Sp3 := fun ts M Q => match ts with
 | [.adr d] => ∃ m : Po, M d = some (.dk (dkI m)) ∧ (m.map Prod.fst).Nodup ∧ m.length < 64 ∧ Q (poT (norm m)) M
 | _ => False
theorem a4k {P : Program} {w : World} {K : PySem.W.Frag} {mg : Str → Option Value} {base : Heap} {f : Addr} {fd : FuncData} {n : Nat}  (F : Fun K "without_noughts" "without_noughts" a0x f fd) (hm : mg "without_noughts" = some (.ref f)) (hb : a1K K fd ["counts"] []) (Z : Zs K mg)  : Df P w K mg base (n + 1) "without_noughts" ["counts"] a0Q := by
 refine F.dfn hm hb a4g (by intro ts M Q h; unfold a0Q at h; first | (split at h <;> first | rfl | exact h.elim) | (obtain ⟨_, _, _, _, _, rfl, _⟩ := h; rfl) | (obtain ⟨_, _, _, _, rfl, _⟩ := h; rfl) | (obtain ⟨_, _, _, rfl, _⟩ := h; rfl) | (obtain ⟨_, _, rfl, _⟩ := h; rfl) | (obtain ⟨_, rfl, _⟩ := h; rfl)) ⟨_, fun cdv A outer s H E hr => (@a0l _ _ _ (@a1h _ _ _ _ (@a4Q _ _ _ _ _ _ _ _ _ a4c Z.b_tuple PyProof.Rows.boot_tuple (@a0a _ _ _ _ _ (@a3v _ _ _ _ _ _ _ _ _ _ _ _ _ _ rfl (@a3K _ _ _ _ (@a1f _ _ _ _ _ _ _ _ _ (@a8f _ rfl) Z.b_sorted PyProof.Rows.boot_sorted (@a0a _ _ _ _ _ (@hv _ 0 _ _ (by rfl) (by walk_at "3") (by decide) (by decide)) a0f (by rfl)) (by rfl) (by decide) (by decide) (by rfl) (by rfl))) (@a0T _ (a0b a0x) _ ["counts"] (["power", "counts"]) ([none, some 0]) (by decide +kernel) rfl rfl) a2c (fun _ _ _ _ _ => @a1y _ _ 0 _ (show List.Nodup (["power", "counts"] : List Str) by decide +kernel) rfl (Or.inl rfl) (Or.inr rfl)) (fun _ _ _ _ _ => b9B (@a1W _ _ _ _ _ _ _ _ (@b1h _ hr.units) (@c0T _ _ _ _ _ _ hr.units (@hv _ 1 _ _ (by rfl) (by walk_at "3") (by decide) (by decide)) (@hv _ 0 _ _ (by rfl) (by walk_at "3") (by decide) (by decide)) (by intro _ _; rfl)) a0j (@a1C _ _ (by decide) (by decide)))) (fun _ _ _ _ _ => (@a7N _ _ _ _ _ (@a0a _ _ _ _ _ (@hv _ 0 _ _ (by rfl) (by walk_at "3") (by decide) (by decide)) (@a0a _ _ _ _ _ (@c0T _ _ _ _ _ _ hr.units (@hv _ 1 _ _ (by rfl) (by walk_at "3") (by decide) (by decide)) (@hv _ 0 _ _ (by rfl) (by walk_at "3") (by decide) (by decide)) (by intro _ _; rfl)) a0f (by rfl)) (by rfl)))) (by intro _; rfl)) a0f (by rfl)) (by rfl) (by decide) (by decide) (by rfl) (by rfl)))), fun ts M Q h => ?_⟩
 unfold a0Q at h
 split at h
 ·rename_i d
  obtain ⟨m, hd, hnd, h64, h⟩ := h
  walk_at "rd"
  rw [hd]
  dsimp only
  refine ⟨m.map Prod.fst, a4s m, by rw [List.length_map]; exact h64, fun ms hp hs r hr => ?_⟩
  have hS := Sub.new hr (o := MO.lst (ms.map T.int))
  have hM1 : (updM M r (MO.lst (ms.map T.int))) r = some (.lst (ms.map T.int)) := a0c
  have hd1 := hS _ _ hd
  generalize updM M r (MO.lst (ms.map T.int)) = M1 at hS hM1 hd1 ⊢
  have hml : ms.length < 64 := by rw [hp.length_eq, List.length_map]; exact h64
  refine ⟨fun i ys M' => ys = ((((ms.take i).filter fun k => decide (co m k ≠ 0)).map fun k => (k, co m k)).map prT) ∧ M' = M1, ⟨rfl, rfl⟩, ?_, a0Z (by lia), ?_, ?_⟩
  ·rintro i ys M' ⟨_, rfl⟩
   exact hM1
  ·rintro i x ys M' hx ⟨rfl, rfl⟩
   obtain ⟨k, hx2, rfl⟩ := a0W hx
   have hk : k ∈ m.map Prod.fst := hp.mem_iff.mp (List.mem_of_getElem? hx2)
   have hv := a2C hnd hk
   rw [hd1]
   dsimp only
   refine ⟨.inl k, _, rfl, hv, rfl, by rw [a5x]; decide, ?_⟩
   have ht : ms.take (i + 1) = ms.take i ++ [k] := by rw [List.take_add_one, hx2]; rfl
   rw [a5V, ht, List.filter_append]
   by_cases c : co m k = 0
   ·rw [decide_eq_true c, if_neg (by decide)]
    refine ⟨?_, rfl⟩
    rw [List.filter_cons, if_neg (by simpa using c), List.filter_nil, List.append_nil]
   ·rw [decide_eq_false c, if_pos rfl]
    refine ⟨.inl k, _, rfl, hv, by decide, ?_, rfl⟩
    rw [List.filter_cons, if_pos (by simpa using c), List.filter_nil, List.map_append, List.map_append]; rfl
  ·rintro ys M' ⟨rfl, rfl⟩ q hq
   rw [List.take_length, b0k hnd hp hs]
   exact a1j h (hS.newr hq)
 ·exact h.elim
theorem a3F {m : Po} {L : List Int} (hn : (m.map Prod.fst).Nodup) (hs : ∀ x ∈ m, x.1 ∈ L) : m.length ≤ L.length := by
 have h1 : (m.map Prod.fst).length ≤ L.length := List.Nodup.length_le_of_subset hn fun k hk => by
  obtain ⟨x, hx, rfl⟩ := List.mem_map.mp hk
  exact hs x hx
 rwa [List.length_map] at h1
theorem b0V {k v : Int} {m : Po} {L : List Int} (hk : k ∈ L) (hs : ∀ x ∈ m, x.1 ∈ L) : ∀ x ∈ setP k v m, x.1 ∈ L := fun x hx => by
 have h1 : x.1 ∈ (setP k v m).map Prod.fst := List.mem_map.mpr ⟨x, hx, rfl⟩
 rw [a5F] at h1
 split at h1
 ·obtain ⟨y, hy, e⟩ := List.mem_map.mp h1
  rw [← e]; exact hs y hy
 ·rcases List.mem_append.mp h1 with z | z
  ·obtain ⟨y, hy, e⟩ := List.mem_map.mp z
   rw [← e]; exact hs y hy
  ·rw [List.mem_singleton.mp z]; exact hk
theorem b1k {p q : Po} (h : ∀ k, co p k = co q k) : norm p = norm q := a1x (a0z p) (a0z q) fun k => by rw [a0F, a0F, h]
noncomputable def a2H : Sp3 := fun ts M Q => match ts with
 | [.tup a, .tup b] => ∃ (p q : Po) (L : List Int), a = p.map prT ∧ b = q.map prT ∧ CanP p ∧ L.length < 64 ∧ (∀ x ∈ p, x.1 ∈ L) ∧ (∀ x ∈ q, x.1 ∈ L) ∧ q.length ≤ 5000 ∧ Q (poT (addP p q)) M
 | _ => False
theorem b5P {P : Program} {w : World} {K : PySem.W.Frag} {mg : Str → Option Value} {base : Heap} {f : Addr} {fd : FuncData} {n : Nat}  (F : Fun K "added" "added" a4J f fd) (hm : mg "added" = some (.ref f)) (hb : a1K K fd ["one", "other"] []) (Z : Zs K mg) (D_without_noughts : Df P w K mg base n "without_noughts" ["counts"] a0Q) : Df P w K mg base (n + 1) "added" ["one", "other"] a2H := by
 refine F.dfn hm hb a5r (by intro ts M Q h; unfold a2H at h; first | (split at h <;> first | rfl | exact h.elim) | (obtain ⟨_, _, _, _, _, rfl, _⟩ := h; rfl) | (obtain ⟨_, _, _, _, rfl, _⟩ := h; rfl) | (obtain ⟨_, _, _, rfl, _⟩ := h; rfl) | (obtain ⟨_, _, rfl, _⟩ := h; rfl) | (obtain ⟨_, rfl, _⟩ := h; rfl)) ⟨_, fun cdv A outer s H E hr => (@a0d _ _ _ _ _ (@a1t _ _ _ _ 2 _ _ (@a4Q _ _ _ _ _ _ _ _ _ (@a6d _ rfl) Z.b_dict PyProof.Rows.boot_dict (@a0a _ _ _ _ _ (@hv _ 0 _ _ (by rfl) (by walk_at "3") (by decide) (by decide)) a0f (by rfl)) (by rfl) (by decide) (by decide) (by rfl) (by rfl)) a5r.nd (by rfl) (by walk_at "2") (by rfl) (by walk_at "4")) (@a0d _ _ _ _ _ (@a8C _ _ _ _ _ _ _ _ PassesOwn.never rfl (@a3K _ _ _ _ (@hv _ 1 _ _ (by rfl) (by walk_at "3") (by decide) (by decide))) (@b4m _ _ _ _ _ 2 rfl (@a2M _ _ _ _ _ (@a2J _ _ 3 _ a5r.nd (by rfl) (by walk_at "2") (by walk_at "4")) (@a2M _ _ _ _ _ (@a2J _ _ 4 _ a5r.nd (by rfl) (by walk_at "2") (by walk_at "4")) a9d (by rfl)) (by rfl)) (by rfl) (by rfl)) (@a0l _ _ _ (@c0b _ _ _ _ _ _ _ _ _ hr.units (@a0E _ _ _ _ _ _ _ _ a0I (@b6S _ _ _ _ _ _ _ _ _ hr.units (@hv _ 2 _ _ (by rfl) (by walk_at "3") (by decide) (by decide)) (@hv _ 3 _ _ (by rfl) (by walk_at "3") (by decide) (by decide)) a0j (by rfl) (by rfl) (by rfl) (by rfl)) (@hv _ 4 _ _ (by rfl) (by walk_at "3") (by decide) (by decide))) (@hv _ 2 _ _ (by rfl) (by walk_at "3") (by decide) (by decide)) (@hv _ 3 _ _ (by rfl) (by walk_at "3") (by decide) (by decide)) (by rfl))) (by intro _; rfl)) (@a0l _ _ _ (@a1h _ _ _ _ (@a0r _ _ _ _ _ _ _ _ _ _ D_without_noughts hr (@a0a _ _ _ _ _ (@hv _ 2 _ _ (by rfl) (by walk_at "3") (by decide) (by decide)) a0f (by rfl)) (by rfl) (by decide) (by rfl) (by rfl)))))), fun ts M Q h => ?_⟩
 unfold a2H at h
 split at h
 ·rename_i a b
  obtain ⟨p, q, L, rfl, rfl, hp, hL, hpL, hqL, hql, h⟩ := h
  have hnd0 : (p.map Prod.fst).Nodup := List.pairwise_map.mpr (hp.1.imp fun h z => Int.ne_of_lt h z)
  refine a0C fun K1 hK1 => ?_
  walk_at "rd"
  refine ⟨dkI p, (b1D p).symm, by rw [a4s]; exact List.pairwise_map.mpr (hnd0.imp fun h z => h (Sum.inl.inj z)), fun d hd => ?_⟩
  have hMd : (updM M d (MO.dk (dkI p))) d = some (.dk (dkI p)) := a0c
  have hS := Sub.new hd (o := MO.dk (dkI p))
  generalize updM M d (MO.dk (dkI p)) = M1 at hMd hS ⊢
  rw [hK1]; clear hK1
  refine a0C fun K2 hK2 => ?_
  refine a3W fun B hB => ?_
  unfold a6l
  walk_at "rd"
  refine ⟨fun i ρ M' => (∃ (x3 x4 : Option T), ρ = [some (T.tup (p.map prT)), some (T.tup (q.map prT)), some (T.adr d), x3, x4]) ∧ (∃ m : Po, M' d = some (.dk (dkI m)) ∧ (m.map Prod.fst).Nodup ∧ (∀ x ∈ m, x.1 ∈ L) ∧ ∀ k, co m k = co (p ++ q.take i) k) ∧ Sub M M', ⟨⟨_, _, rfl⟩, ⟨p, hMd, hnd0, hpL, fun k => by rw [List.take_zero, List.append_nil]⟩, hS⟩, fun _ _ _ _ => trivial, ?_, ?_⟩
  ·rintro i x ρ M' hx ⟨⟨x3, x4, rfl⟩, ⟨m, hm, hnd, hmL, hco⟩, hS1⟩
   obtain ⟨⟨y1, y2⟩, hx2, rfl⟩ : ∃ y, q[i]? = some y ∧ prT y = x := by
    rw [List.getElem?_map] at hx
    exact Option.map_eq_some_iff.mp hx
   have hyL := hqL _ (List.mem_of_getElem? hx2)
   unfold prT
   dsimp only
   rw [hB]; clear hB
   walk_at "rd"
   rw [hm]
   refine ⟨trivial, ?_⟩
   dsimp only
   refine ⟨.inl y1, rfl, ?_⟩
   rw [a5o y1 hnd]
   dsimp only
   have hml := a3F hnd hmL
   refine ⟨.inl y1, rfl, a0Z (by rw [b4E]; lia), ⟨_, _, rfl⟩, ⟨setP y1 (co m y1 + y2) m, by rw [a7v hnd], a6M hnd, b0V hyL hmL, fun k => ?_⟩, hS1.updF hd⟩
   have ht : q.take (i + 1) = q.take i ++ [(y1, y2)] := by rw [List.take_add_one, hx2]; rfl
   rw [b0B y1 _ hnd, ht, ← List.append_assoc, a1o, ← hco]
   show _ = co m k + ((if y1 = k then y2 else 0) + 0)
   by_cases e : k = y1
   ·rw [if_pos e, if_pos e.symm, e]; lia
   ·rw [if_neg e, if_neg (fun z => e z.symm)]; lia
  ·rintro ρ M' ⟨⟨x3, x4, rfl⟩, ⟨m, hm, hnd, hmL, hco⟩, hS1⟩
   try rw [List.length_map] at hco
   rw [List.take_length] at hco
   rw [hK2]; clear hK2
   walk_at "rd"
   refine ⟨m, hm, hnd, Nat.lt_of_le_of_lt (a3F hnd hmL) hL, ?_⟩
   rw [b1k hco]
   exact a1j h hS1
 ·exact h.elim
noncomputable def a0G : Sp3 := fun ts M Q => match ts with
 | [.tup a, .tup b] => ∃ (p q : Po) (L : List Int), a = p.map prT ∧ b = q.map prT ∧ L.length < 64 ∧ (∀ x ∈ p, ∀ y ∈ q, x.1 + y.1 ∈ L) ∧ (Sml p ∨ Sml q) ∧ p.length ≤ 5000 ∧ q.length ≤ 5000 ∧ Q (poT (a0K p q)) M
 | _ => False
theorem b5x {p q : Po} {i : Nat} {x : Int × Int} (h : p[i]? = some x) (k : Int) : co (rawM (p.take (i + 1)) q) k = co (rawM (p.take i) q) k + co (q.map fun b => (x.1 + b.1, x.2 * b.2)) k := by
 rw [List.take_add_one, h]
 unfold rawM
 rw [List.flatMap_append, a1o]
 show _ + co ([x].flatMap fun a => q.map fun b => (a.1 + b.1, a.2 * b.2)) k = _
 rw [List.flatMap_cons, List.flatMap_nil, List.append_nil]
theorem a7B {P : Program} {w : World} {K : PySem.W.Frag} {mg : Str → Option Value} {base : Heap} {f : Addr} {fd : FuncData} {n : Nat}  (F : Fun K "multiplied" "multiplied" a1L f fd) (hm : mg "multiplied" = some (.ref f)) (hb : a1K K fd ["one", "other"] []) (Z : Zs K mg) (D_without_noughts : Df P w K mg base n "without_noughts" ["counts"] a0Q) : Df P w K mg base (n + 1) "multiplied" ["one", "other"] a0G := by
 refine F.dfn hm hb a1a (by intro ts M Q h; unfold a0G at h; first | (split at h <;> first | rfl | exact h.elim) | (obtain ⟨_, _, _, _, _, rfl, _⟩ := h; rfl) | (obtain ⟨_, _, _, _, rfl, _⟩ := h; rfl) | (obtain ⟨_, _, _, rfl, _⟩ := h; rfl) | (obtain ⟨_, _, rfl, _⟩ := h; rfl) | (obtain ⟨_, rfl, _⟩ := h; rfl)) ⟨_, fun cdv A outer s H E hr => (@a0d _ _ _ _ _ (@a1t _ _ _ _ 2 _ _ b4h a1a.nd (by rfl) (by walk_at "2") (by rfl) (by walk_at "4")) (@a0d _ _ _ _ _ (@a8C _ _ _ _ _ _ _ _ PassesOwn.never rfl (@a3K _ _ _ _ (@hv _ 0 _ _ (by rfl) (by walk_at "3") (by decide) (by decide))) (@b4m _ _ _ _ _ 2 rfl (@a2M _ _ _ _ _ (@a2J _ _ 3 _ a1a.nd (by rfl) (by walk_at "2") (by walk_at "4")) (@a2M _ _ _ _ _ (@a2J _ _ 4 _ a1a.nd (by rfl) (by walk_at "2") (by walk_at "4")) a9d (by rfl)) (by rfl)) (by rfl) (by rfl)) (@a0l _ _ _ (@a8C _ _ _ _ _ _ _ _ PassesOwn.never rfl (@a3K _ _ _ _ (@hv _ 1 _ _ (by rfl) (by walk_at "3") (by decide) (by decide))) (@b4m _ _ _ _ _ 2 rfl (@a2M _ _ _ _ _ (@a2J _ _ 5 _ a1a.nd (by rfl) (by walk_at "2") (by walk_at "4")) (@a2M _ _ _ _ _ (@a2J _ _ 6 _ a1a.nd (by rfl) (by walk_at "2") (by walk_at "4")) a9d (by rfl)) (by rfl)) (by rfl) (by rfl)) (@a0d _ _ _ _ _ (@a1t _ _ _ _ 7 _ _ (@a0E _ _ _ _ _ _ _ _ a0I (@hv _ 3 _ _ (by rfl) (by walk_at "3") (by decide) (by decide)) (@hv _ 5 _ _ (by rfl) (by walk_at "3") (by decide) (by decide))) a1a.nd (by rfl) (by walk_at "2") (by rfl) (by walk_at "4")) (@a0l _ _ _ (@c0b _ _ _ _ _ _ _ _ _ hr.units (@a0E _ _ _ _ _ _ _ _ a0I (@b6S _ _ _ _ _ _ _ _ _ hr.units (@hv _ 2 _ _ (by rfl) (by walk_at "3") (by decide) (by decide)) (@hv _ 7 _ _ (by rfl) (by walk_at "3") (by decide) (by decide)) a0j (by rfl) (by rfl) (by rfl) (by rfl)) (@a0E _ _ _ _ _ _ _ _ a3T (@hv _ 4 _ _ (by rfl) (by walk_at "3") (by decide) (by decide)) (@hv _ 6 _ _ (by rfl) (by walk_at "3") (by decide) (by decide)))) (@hv _ 2 _ _ (by rfl) (by walk_at "3") (by decide) (by decide)) (@hv _ 7 _ _ (by rfl) (by walk_at "3") (by decide) (by decide)) (by rfl)))) (by intro _; rfl))) (by intro _; rfl)) (@a0l _ _ _ (@a1h _ _ _ _ (@a0r _ _ _ _ _ _ _ _ _ _ D_without_noughts hr (@a0a _ _ _ _ _ (@hv _ 2 _ _ (by rfl) (by walk_at "3") (by decide) (by decide)) a0f (by rfl)) (by rfl) (by decide) (by rfl) (by rfl)))))), fun ts M Q h => ?_⟩
 unfold a0G at h
 split at h
 ·rename_i a b
  obtain ⟨p, q, L, rfl, rfl, hL, hpq, hsz, hpl, hql, h⟩ := h
  refine a0C fun K1 hK1 => ?_
  walk_at "rd"
  intro d hd
  have hMd : (updM M d (MO.dk [])) d = some (.dk (dkI [])) := a0c
  have hS := Sub.new hd (o := MO.dk [])
  generalize updM M d (MO.dk []) = M1 at hMd hS ⊢
  rw [hK1]; clear hK1
  refine a0C fun K2 hK2 => ?_
  refine a3W fun B hB => ?_
  unfold a6l
  walk_at "rd"
  refine ⟨fun i ρ M' => (∃ (x3 x4 x5 x6 x7 : Option T), ρ = [some (T.tup (p.map prT)), some (T.tup (q.map prT)), some (T.adr d), x3, x4, x5, x6, x7]) ∧ (∃ m : Po, M' d = some (.dk (dkI m)) ∧ (m.map Prod.fst).Nodup ∧ (∀ x ∈ m, x.1 ∈ L) ∧ ∀ k, co m k = co (rawM (p.take i) q) k) ∧ Sub M M', ⟨⟨_, _, _, _, _, rfl⟩, ⟨[], hMd, .nil, fun _ z => absurd z List.not_mem_nil, fun k => rfl⟩, hS⟩, fun _ _ _ _ => trivial, ?_, ?_⟩
  ·rintro i x ρ M' hx ⟨⟨x3, x4, x5, x6, x7, rfl⟩, ⟨m, hm, hnd, hmL, hco⟩, hS1⟩
   obtain ⟨⟨y1, y2⟩, hx2, rfl⟩ : ∃ y, p[i]? = some y ∧ prT y = x := by
    rw [List.getElem?_map] at hx
    exact Option.map_eq_some_iff.mp hx
   have hyp := List.mem_of_getElem? hx2
   rw [show prT (y1, y2) = T.tup [T.int y1, T.int y2] from rfl]
   dsimp only
   refine ⟨rfl, rfl, ?_⟩
   rw [hB]; clear hB
   refine a3W fun B2 hB2 => ?_
   unfold a6l
   walk_at "rd"
   refine ⟨fun j ρ M2 => (∃ (x5 x6 x7 : Option T), ρ = [some (T.tup (p.map prT)), some (T.tup (q.map prT)), some (T.adr d), some (T.int y1), some (T.int y2), x5, x6, x7]) ∧ (∃ m2 : Po, M2 d = some (.dk (dkI m2)) ∧ (m2.map Prod.fst).Nodup ∧ (∀ x ∈ m2, x.1 ∈ L) ∧ ∀ k, co m2 k = co m k + co ((q.take j).map fun b => (y1 + b.1, y2 * b.2)) k) ∧ Sub M M2, ⟨⟨_, _, _, rfl⟩, ⟨m, hm, hnd, hmL, fun k => by show _ = co m k + 0; rw [Int.add_zero]⟩, hS1⟩, fun _ _ _ _ => trivial, ?_, ?_⟩
   ·rintro j z ρ M2 hz ⟨⟨x5, x6, x7, rfl⟩, ⟨m2, hm2, hnd2, hmL2, hco2⟩, hS2⟩
    obtain ⟨⟨z1, z2⟩, hz2, rfl⟩ : ∃ y, q[j]? = some y ∧ prT y = z := by
     rw [List.getElem?_map] at hz
     exact Option.map_eq_some_iff.mp hz
    have hzL := hpq _ hyp _ (List.mem_of_getElem? hz2)
    have hy2 : CMul y2 z2 := by
     rcases hsz with s | s
     ·have := s _ hyp
      exact .inl ⟨by lia, by lia⟩
     ·have := s _ (List.mem_of_getElem? hz2)
      exact .inr ⟨by lia, by lia⟩
    dsimp only at hzL
    rw [show prT (z1, z2) = T.tup [T.int z1, T.int z2] from rfl]
    dsimp only
    refine ⟨rfl, rfl, ?_⟩
    rw [hB2]; clear hB2
    refine a0C fun K5 hK5 => ?_
    walk_at "rd"
    rw [hK5]; clear hK5
    walk_at "rd"
    rw [hm2]
    refine ⟨trivial, ?_⟩
    dsimp only
    refine ⟨.inl (y1 + z1), rfl, hy2, ?_⟩
    rw [a5o (y1 + z1) hnd2]
    dsimp only
    have hml := a3F hnd2 hmL2
    refine ⟨.inl (y1 + z1), rfl, a0Z (by rw [b4E]; lia), ⟨_, _, _, rfl⟩, ⟨setP (y1 + z1) (co m2 (y1 + z1) + y2 * z2) m2, by rw [a7v hnd2], a6M hnd2, b0V hzL hmL2, fun k => ?_⟩, hS2.updF hd⟩
    have ht : q.take (j + 1) = q.take j ++ [(z1, z2)] := by rw [List.take_add_one, hz2]; rfl
    rw [b0B (y1 + z1) _ hnd2, ht, List.map_append, a1o, ← Int.add_assoc, ← hco2]
    show _ = co m2 k + ((if y1 + z1 = k then y2 * z2 else 0) + 0)
    by_cases e : k = y1 + z1
    ·rw [if_pos e, if_pos e.symm, e]; lia
    ·rw [if_neg e, if_neg (fun z => e z.symm)]; lia
   ·rintro ρ M2 ⟨⟨x5, x6, x7, rfl⟩, ⟨m2, hm2, hnd2, hmL2, hco2⟩, hS2⟩
    refine ⟨⟨_, _, _, _, _, rfl⟩, ⟨m2, hm2, hnd2, hmL2, fun k => ?_⟩, hS2⟩
    try rw [List.length_map] at hco2
    rw [List.take_length] at hco2
    rw [hco2 k, hco k, b5x hx2]
  ·rintro ρ M' ⟨⟨x3, x4, x5, x6, x7, rfl⟩, ⟨m, hm, hnd, hmL, hco⟩, hS1⟩
   try rw [List.length_map] at hco
   rw [List.take_length] at hco
   rw [hK2]; clear hK2
   walk_at "rd"
   refine ⟨m, hm, hnd, Nat.lt_of_le_of_lt (a3F hnd hmL) hL, ?_⟩
   have e := b1k hco
   rw [e]
   exact a1j h hS1
 ·exact h.elim
noncomputable def a0J : Sp3 := fun ts M Q => match ts with
 | [.int r, .int c] => Q (poT (oneP r c)) M
 | _ => False
theorem a4M {P : Program} {w : World} {K : PySem.W.Frag} {mg : Str → Option Value} {base : Heap} {f : Addr} {fd : FuncData} {n : Nat}  (F : Fun K "one_where_same" "one_where_same" a0O f fd) (hm : mg "one_where_same" = some (.ref f)) (hb : a1K K fd ["row", "column"] []) (Z : Zs K mg)  : Df P w K mg base (n + 1) "one_where_same" ["row", "column"] a0J := by
 obtain ⟨tk_ONE, c_ONE⟩ := Z.c_ONE
 obtain ⟨tk_NOUGHT, c_NOUGHT⟩ := Z.c_NOUGHT
 refine F.dfn hm hb a4H (by intro ts M Q h; unfold a0J at h; first | (split at h <;> first | rfl | exact h.elim) | (obtain ⟨_, _, _, _, _, rfl, _⟩ := h; rfl) | (obtain ⟨_, _, _, _, rfl, _⟩ := h; rfl) | (obtain ⟨_, _, _, rfl, _⟩ := h; rfl) | (obtain ⟨_, _, rfl, _⟩ := h; rfl) | (obtain ⟨_, rfl, _⟩ := h; rfl)) ⟨_, fun cdv A outer s H E hr => (@a0l _ _ _ (@a1h _ _ _ _ (@b8K _ _ _ _ _ _ _ _ (@a1W _ _ _ _ _ _ _ _ (@a6L _ hr.units) (@hv _ 0 _ _ (by rfl) (by walk_at "3") (by decide) (by decide)) (@hv _ 1 _ _ (by rfl) (by walk_at "3") (by decide) (by decide)) (@a1C _ _ (by decide) (by decide))) (@a2o _ _ _ _ _ c_ONE (by rfl) (by decide)) (@a2o _ _ _ _ _ c_NOUGHT (by rfl) (by decide))))), fun ts M Q h => ?_⟩
 unfold a0J at h
 split at h
 ·rename_i r c
  walk_at "rd"
  unfold oneP at h
  refine ite2 (fun z => ?_) (fun z => ?_)
  ·rw [if_pos z] at h; exact a0B h
  ·rw [if_neg z] at h; exact a0B h
 ·exact h.elim
theorem a4l {a b B C : Nat} {p q : Po} {M : MH} {Q : VK3} (hp : GdP a B p) (hq : GdP b C q) (hab : a + b ≤ 31) (hB : B < 2 ^ 64) (h : Q (poT (a0K p q)) M) : a0G [poT p, poT q] M Q :=
 ⟨p, q, near (a + b), rfl, rfl, by rw [a7G]; lia, b5o hp.2.1 hq.2.1, .inl (b8y hp hB), by have := hp.1.len hp.2.1; lia, by have := hq.1.len hq.2.1; lia, h⟩
theorem a8i {a B C : Nat} {p q : Po} {M : MH} {Q : VK3} (hp : GdP a B p) (hq : GdP a C q) (ha : a ≤ 31) (h : Q (poT (addP p q)) M) : a2H [poT p, poT q] M Q :=
 ⟨p, q, near a, rfl, rfl, hp.1, by rw [a7G]; lia, b0Z hp.2.1, b0Z hq.2.1, by have := hq.1.len hq.2.1; lia, h⟩
theorem a5N {a b c d : Nat} {p q : Po} {M : MH} {Q : VK3} (hp : GdI a b p) (hq : GdI c d q) (hab : a + c + (b + d) ≤ 62) (hB : Sml p ∨ Sml q) (h : Q (poT (a0K p q)) M) : a0G [poT p, poT q] M Q :=
 ⟨p, q, span (a + c) (b + d), rfl, rfl, by rw [a7l]; lia, b5n hp.2 hq.2, hB, by have := hp.1.lenI hp.2; lia, by have := hq.1.lenI hq.2; lia, h⟩
theorem b5a {a b : Nat} {p q : Po} {M : MH} {Q : VK3} (hp : GdI a b p) (hq : GdI a b q) (ha : a + b ≤ 62) (h : Q (poT (addP p q)) M) : a2H [poT p, poT q] M Q :=
 ⟨p, q, span a b, rfl, rfl, hp.1, by rw [a7l]; lia, fun x hx => a5u (hp.2 x hx), fun x hx => a5u (hq.2 x hx), by have := hq.1.lenI hq.2; lia, h⟩
noncomputable def a2d : Sp3 := fun ts M Q => match ts with
 | [.adr r, .int l] => ∃ (ps : List Po) (b B : Nat), M r = some (.lst (ps.map poT)) ∧ 1 ≤ l.natAbs ∧ l.natAbs < ps.length ∧ ps.length ≤ 6 ∧ (∀ p ∈ ps, GdP b B p) ∧ b ≤ 29 ∧ B < 2 ^ 60 ∧ ∀ (t : Addr) (M' : MH), M t = none → Sub M M' → M' t = some (.lst ((wlP ps l).map poT)) → Q (.adr t) M'
 | _ => False
theorem a6n {P : Program} {w : World} {K : PySem.W.Frag} {mg : Str → Option Value} {base : Heap} {f : Addr} {fd : FuncData} {n : Nat}  (F : Fun K "with_letter" "with_letter" a1r f fd) (hm : mg "with_letter" = some (.ref f)) (hb : a1K K fd ["row", "letter"] []) (Z : Zs K mg) (D_added : Df P w K mg base n "added" ["one", "other"] a2H) (D_multiplied : Df P w K mg base n "multiplied" ["one", "other"] a0G) : Df P w K mg base (n + 1) "with_letter" ["row", "letter"] a2d := by
 obtain ⟨tk_LESS_UP, c_LESS_UP⟩ := Z.c_LESS_UP
 obtain ⟨tk_UP, c_UP⟩ := Z.c_UP
 obtain ⟨tk_DOWN, c_DOWN⟩ := Z.c_DOWN
 obtain ⟨tk_LESS_DOWN, c_LESS_DOWN⟩ := Z.c_LESS_DOWN
 refine F.dfn hm hb a1c (by intro ts M Q h; unfold a2d at h; first | (split at h <;> first | rfl | exact h.elim) | (obtain ⟨_, _, _, _, _, rfl, _⟩ := h; rfl) | (obtain ⟨_, _, _, _, rfl, _⟩ := h; rfl) | (obtain ⟨_, _, _, rfl, _⟩ := h; rfl) | (obtain ⟨_, _, rfl, _⟩ := h; rfl) | (obtain ⟨_, rfl, _⟩ := h; rfl)) ⟨_, fun cdv A outer s H E hr => (@a0d _ _ _ _ _ (@a1t _ _ _ _ 2 _ _ (@a0E _ _ _ _ _ _ _ _ a3q (@a1f _ _ _ _ _ _ _ _ _ a2V Z.b_abs PyProof.Rows.boot_abs (@a0a _ _ _ _ _ (@hv _ 1 _ _ (by rfl) (by walk_at "3") (by decide) (by decide)) a0f (by rfl)) (by rfl) (by decide) (by decide) (by rfl) (by rfl)) a0j) a1c.nd (by rfl) (by walk_at "2") (by rfl) (by walk_at "4")) (@a0d _ _ _ _ _ (@a1t _ _ _ _ 3 _ _ (@h_ix _ _ _ _ _ _ (@hv _ 0 _ _ (by rfl) (by walk_at "3") (by decide) (by decide)) (@hv _ 2 _ _ (by rfl) (by walk_at "3") (by decide) (by decide)) (by intro _ _; rfl)) a1c.nd (by rfl) (by walk_at "2") (by rfl) (by walk_at "4")) (@a0d _ _ _ _ _ (@a1t _ _ _ _ 4 _ _ (@h_ix _ _ _ _ _ _ (@hv _ 0 _ _ (by rfl) (by walk_at "3") (by decide) (by decide)) (@a0E _ _ _ _ _ _ _ _ a0I (@hv _ 2 _ _ (by rfl) (by walk_at "3") (by decide) (by decide)) a0j) (by intro _ _; rfl)) a1c.nd (by rfl) (by walk_at "2") (by rfl) (by walk_at "4")) (@a0d _ _ _ _ _ (@s_if _ _ _ _ _ _ _ _ (@a1W _ _ _ _ _ _ _ _ b1i (@hv _ 1 _ _ (by rfl) (by walk_at "3") (by decide) (by decide)) a0j (@a1C _ _ (by decide) (by decide))) (@a0l _ _ _ (@a1t _ _ _ _ 5 _ _ (@b0t _ _ _ _ (@a0a _ _ _ _ _ (@a0r _ _ _ _ _ _ _ _ _ _ D_added hr (@a0a _ _ _ _ _ (@a0r _ _ _ _ _ _ _ _ _ _ D_multiplied hr (@a0a _ _ _ _ _ (@hv _ 3 _ _ (by rfl) (by walk_at "3") (by decide) (by decide)) (@a0a _ _ _ _ _ (@a2o _ _ _ _ _ c_LESS_UP (by rfl) (by decide)) a0f (by rfl)) (by rfl)) (by rfl) (by decide) (by rfl) (by rfl)) (@a0a _ _ _ _ _ (@hv _ 4 _ _ (by rfl) (by walk_at "3") (by decide) (by decide)) a0f (by rfl)) (by rfl)) (by rfl) (by decide) (by rfl) (by rfl)) (@a0a _ _ _ _ _ (@a0r _ _ _ _ _ _ _ _ _ _ D_multiplied hr (@a0a _ _ _ _ _ (@hv _ 3 _ _ (by rfl) (by walk_at "3") (by decide) (by decide)) (@a0a _ _ _ _ _ (@a2o _ _ _ _ _ c_UP (by rfl) (by decide)) a0f (by rfl)) (by rfl)) (by rfl) (by decide) (by rfl) (by rfl)) a0f (by rfl)) (by rfl))) a1c.nd (by rfl) (by walk_at "2") (by rfl) (by walk_at "4"))) (@a0l _ _ _ (@a1t _ _ _ _ 5 _ _ (@b0t _ _ _ _ (@a0a _ _ _ _ _ (@a0r _ _ _ _ _ _ _ _ _ _ D_multiplied hr (@a0a _ _ _ _ _ (@hv _ 4 _ _ (by rfl) (by walk_at "3") (by decide) (by decide)) (@a0a _ _ _ _ _ (@a2o _ _ _ _ _ c_DOWN (by rfl) (by decide)) a0f (by rfl)) (by rfl)) (by rfl) (by decide) (by rfl) (by rfl)) (@a0a _ _ _ _ _ (@a0r _ _ _ _ _ _ _ _ _ _ D_added hr (@a0a _ _ _ _ _ (@hv _ 3 _ _ (by rfl) (by walk_at "3") (by decide) (by decide)) (@a0a _ _ _ _ _ (@a0r _ _ _ _ _ _ _ _ _ _ D_multiplied hr (@a0a _ _ _ _ _ (@hv _ 4 _ _ (by rfl) (by walk_at "3") (by decide) (by decide)) (@a0a _ _ _ _ _ (@a2o _ _ _ _ _ c_LESS_DOWN (by rfl) (by decide)) a0f (by rfl)) (by rfl)) (by rfl) (by decide) (by rfl) (by rfl)) a0f (by rfl)) (by rfl)) (by rfl) (by decide) (by rfl) (by rfl)) a0f (by rfl)) (by rfl))) a1c.nd (by rfl) (by walk_at "2") (by rfl) (by walk_at "4")))) (@a0l _ _ _ (@a1h _ _ _ _ (@a0E _ _ _ _ _ _ _ _ a0I (@a0E _ _ _ _ _ _ _ _ a0I (@a3U _ _ _ _ _ _ _ _ _ (@hv _ 0 _ _ (by rfl) (by walk_at "3") (by decide) (by decide)) a5M (@a5c _ _ _ (@hv _ 2 _ _ (by rfl) (by walk_at "3") (by decide) (by decide)))) (@hv _ 5 _ _ (by rfl) (by walk_at "3") (by decide) (by decide))) (@a3U _ _ _ _ _ _ _ _ _ (@hv _ 0 _ _ (by rfl) (by walk_at "3") (by decide) (by decide)) (@a5c _ _ _ (@a0E _ _ _ _ _ _ _ _ a0I (@hv _ 2 _ _ (by rfl) (by walk_at "3") (by decide) (by decide)) a0j)) a5M)))))))), fun ts M Q h => ?_⟩
 unfold a2d at h
 split at h
 ·rename_i r l
  obtain ⟨ps, b, B, hr, h1, h2, h6, hg, hb, hB, h⟩ := h
  obtain ⟨k, hk⟩ : ∃ k : Nat, l.natAbs = k + 1 := ⟨l.natAbs - 1, by lia⟩
  have hG0 : GdP b B (ps.getD k []) := hg _ (by rw [List.getD_eq_getElem?_getD, List.getElem?_eq_getElem (by lia)]; exact List.getElem_mem _)
  have hG1 : GdP b B (ps.getD (k + 1) []) := hg _ (by rw [List.getD_eq_getElem?_getD, List.getElem?_eq_getElem (by lia)]; exact List.getElem_mem _)
  have a0 : atI (ps.map poT) (k : Int) = some (poT (ps.getD k [])) := a3y (by rw [List.getElem?_map, List.getD_eq_getElem?_getD, List.getElem?_eq_getElem (by lia : k < ps.length)]; rfl)
  have a1 : atI (ps.map poT) ((k : Int) + 1) = some (poT (ps.getD (k + 1) [])) := by
   rw [show (k : Int) + 1 = ((k + 1 : Nat) : Int) by lia]
   exact a3y (by rw [List.getElem?_map, List.getD_eq_getElem?_getD, List.getElem?_eq_getElem (by lia : k + 1 < ps.length)]; rfl)
  refine b5s fun K1 hK1 => ?_
  walk_at "rd"
  rw [hk, show ((k + 1 : Nat) : Int) - 1 = (k : Int) by lia, hr]
  dsimp only
  rw [a0]
  dsimp only
  rw [a1]
  dsimp only
  have key : ∀ (q1 q2 : Po) (v : Addr), M v = none → q1 = wl1 l (ps.getD k []) (ps.getD (k + 1) []) → q2 = wl2 l (ps.getD k []) (ps.getD (k + 1) []) → K1 [some (T.adr r), some (T.int l), some (T.int (k : Int)), some (poT (ps.getD k [])), some (poT (ps.getD (k + 1) [])), some (T.adr v)] (updM M v (MO.lst [poT q1, poT q2])) := fun q1 q2 v hv e1c e2c => by
   have hS := Sub.new hv (o := MO.lst [poT q1, poT q2])
   have hMv : (updM M v (MO.lst [poT q1, poT q2])) v = some (.lst [poT q1, poT q2]) := a0c
   have hMr := hS _ _ hr
   generalize updM M v (MO.lst [poT q1, poT q2]) = M1 at hS hMv hMr ⊢
   rw [hK1]; clear hK1
   walk_at "rd"
   rw [hMr]
   intro c1 hc1
   have hS1 := Sub.new hc1 (o := MO.lst (cutT (ps.map poT) none (some (k : Int))))
   have h1v := hS1 _ _ hMv
   have h1r := hS1 _ _ hMr
   have hS2 := hS.trans hS1
   have h1c : (updM M1 c1 (MO.lst (cutT (ps.map poT) none (some (k : Int))))) c1 = some (.lst (cutT (ps.map poT) none (some (k : Int)))) := a0c
   generalize updM M1 c1 (MO.lst (cutT (ps.map poT) none (some (k : Int)))) = M2 at h1v h1r hS2 h1c ⊢
   rw [h1v]
   dsimp only
   have e1 : cutT (ps.map poT) none (some (k : Int)) = (ps.take k).map poT := by rw [b1I _ _ (by lia), List.map_take]; rfl
   rw [e1]
   refine ⟨a3s (by rw [List.length_map, List.length_take]; simp only [List.length_cons, List.length_nil]; lia), fun c2 hc2 => ?_⟩
   have hS3 := hS2.newr hc2 (o := MO.lst ((ps.take k).map poT ++ [poT q1, poT q2]))
   have h2r := (Sub.new hc2 (o := MO.lst ((ps.take k).map poT ++ [poT q1, poT q2]))) _ _ h1r
   have h2c : (updM M2 c2 (MO.lst ((ps.take k).map poT ++ [poT q1, poT q2]))) c2 = some (.lst ((ps.take k).map poT ++ [poT q1, poT q2])) := a0c
   generalize updM M2 c2 (MO.lst ((ps.take k).map poT ++ [poT q1, poT q2])) = M3 at hS3 h2r h2c ⊢
   rw [h2r]
   dsimp only
   have e2 : cutT (ps.map poT) (some ((k : Int) + 2)) none = (ps.drop (k + 2)).map poT := by rw [show (k : Int) + 2 = ((k + 2 : Nat) : Int) by lia, a4Z _ _ (by lia), List.map_drop]; rfl
   rw [e2]
   intro c3 hc3
   have hS4 := hS3.newr hc3 (o := MO.lst ((ps.drop (k + 2)).map poT))
   have h3c := (Sub.new hc3 (o := MO.lst ((ps.drop (k + 2)).map poT))) _ _ h2c
   generalize updM M3 c3 (MO.lst ((ps.drop (k + 2)).map poT)) = M4 at hS4 h3c ⊢
   rw [h3c]
   dsimp only
   refine ⟨a3s (by rw [List.length_append, List.length_map, List.length_map, List.length_take, List.length_drop]; simp only [List.length_cons, List.length_nil]; lia), fun c4 hc4 => ?_⟩
   refine a1j (h c4 _ (a4N hS4 hc4) (hS4.newr hc4) ?_) Sub.refl
   rw [a0c]
   unfold wlP
   rw [hk, Nat.add_sub_cancel, List.map_append, List.map_append, ← e1c, ← e2c, ← List.append_assoc]; rfl
  have hz : 0 + 1 + 1 ≤ sizeLine := by decide
  refine ite2 (fun c => ?_) (fun c => ?_)
  ·refine a4l (q := lupP) hG0 a7Q (by lia) (by lia) ?_
   refine a8i (hG0.mul a7Q) (hG1.mono (by lia) (by lia : B ≤ B * 2)) (by lia) ?_
   refine a4l (q := upP) hG0 b4i (by lia) (by lia) ⟨hz, fun v hv => key _ _ v hv ?_ ?_⟩
   ·unfold wl1; rw [if_pos c]
   ·unfold wl2; rw [if_pos c]
  ·refine a4l (q := a4X) hG1 a9f (by lia) (by lia) ?_
   refine a4l (q := a3N) hG1 a4R (by lia) (by lia) ?_
   refine a8i (hG0.mono (by lia) (by lia : B ≤ B * 2)) (hG1.mul a4R) (by lia) ⟨hz, fun v hv => key _ _ v hv ?_ ?_⟩
   ·unfold wl1; rw [if_neg c]
   ·unfold wl2; rw [if_neg c]
 ·exact h.elim
noncomputable def a2X : Sp3 := fun ts M Q => match ts with
 | [.tup [.int n, .tup w]] => ∃ ws : List Int, w = ws.map .int ∧ PlOK n ws ∧ ∀ (r : Addr) (as : List Addr) (M' : MH), M r = none → Sub M M' → M' r = some (.lst (as.map T.adr)) → a2n M' as (tabP n ws) → FrP M as → as.Nodup → Q (.adr r) M'
 | _ => False
theorem b0h {P : Program} {w : World} {K : PySem.W.Frag} {mg : Str → Option Value} {base : Heap} {f : Addr} {fd : FuncData} {n : Nat}  (F : Fun K "table_of" "table_of" a1s f fd) (hm : mg "table_of" = some (.ref f)) (hb : a1K K fd ["plait"] []) (Z : Zs K mg) (D_looked : Df P w K mg base n "looked" ["plait"] a3o) (D_one_where_same : Df P w K mg base n "one_where_same" ["row", "column"] a0J) (D_with_letter : Df P w K mg base n "with_letter" ["row", "letter"] a2d) : Df P w K mg base (n + 1) "table_of" ["plait"] a2X := by
 refine F.dfn hm hb a2w (by intro ts M Q h; unfold a2X at h; first | (split at h <;> first | rfl | exact h.elim) | (obtain ⟨_, _, _, _, _, rfl, _⟩ := h; rfl) | (obtain ⟨_, _, _, _, rfl, _⟩ := h; rfl) | (obtain ⟨_, _, _, rfl, _⟩ := h; rfl) | (obtain ⟨_, _, rfl, _⟩ := h; rfl) | (obtain ⟨_, rfl, _⟩ := h; rfl)) ⟨_, fun cdv A outer s H E hr => (@a0d _ _ _ _ _ (@b0X _ _ _ _ (@a0r _ _ _ _ _ _ _ _ _ _ D_looked hr (@a0a _ _ _ _ _ (@hv _ 0 _ _ (by rfl) (by walk_at "3") (by decide) (by decide)) a0f (by rfl)) (by rfl) (by decide) (by rfl) (by rfl)) (by rfl)) (@a0d _ _ _ _ _ (@a1t _ _ _ _ 1 _ _ (@a9c _ _ _ _ _ _ _ Z.b_list Z.b_range (@a0a _ _ _ _ _ (@h_ix _ _ _ _ _ _ (@hv _ 0 _ _ (by rfl) (by walk_at "3") (by decide) (by decide)) a0j (by intro _ _; rfl)) a0f (by rfl)) (by rfl) (by rfl) (by rfl) (by rfl) (by rfl)) a2w.nd (by rfl) (by walk_at "2") (by rfl) (by walk_at "4")) (@a0d _ _ _ _ _ (@b3m _ _ _ _ _ _ _ _ _ _ _ _ _ _ 2 _ _ _ rfl (@a3K _ _ _ _ (@hv _ 1 _ _ (by rfl) (by walk_at "3") (by decide) (by decide))) (@a0T _ (a0b a1s) _ (["plait", "places", "rows", "letter"]) (["row", "places"]) ([none, some 1]) (by decide +kernel) rfl rfl) a2c (fun _ _ _ _ _ => @a1y _ _ 0 _ (show List.Nodup (["row", "places"] : List Str) by decide +kernel) rfl (Or.inr rfl) (Or.inl rfl)) (fun _ _ _ _ _ => a2P) (fun _ _ _ _ _ => (@a3v _ _ _ _ _ _ _ _ _ _ _ _ _ _ rfl (@a3K _ _ _ _ (@hv _ 1 _ _ (by rfl) (by walk_at "3") (by decide) (by decide))) (@b2P _ (a0b a1s) _ _ (["row", "places"]) (["column", "row"]) _ ([none, some 0]) _ _ _ _ _ (by decide +kernel) rfl rfl) a2c (fun _ _ _ _ _ => @a1y _ _ 0 _ (show List.Nodup (["column", "row"] : List Str) by decide +kernel) rfl (Or.inl rfl) (Or.inr rfl)) (fun _ _ _ _ _ => a2P) (fun _ _ _ _ _ => (@a0r _ _ _ _ _ _ _ _ _ _ D_one_where_same hr (@a0a _ _ _ _ _ (@hv _ 1 _ _ (by rfl) (by walk_at "3") (by decide) (by decide)) (@a0a _ _ _ _ _ (@hv _ 0 _ _ (by rfl) (by walk_at "3") (by decide) (by decide)) a0f (by rfl)) (by rfl)) (by rfl) (by decide) (by rfl) (by rfl))) (by intro _; rfl))) a2w.nd (by rfl) (by walk_at "2") (by rfl) (by intro _; rfl) (by walk_at "4")) (@a0d _ _ _ _ _ (@a8C _ _ _ _ _ _ _ _ PassesOwn.never rfl (@a3K _ _ _ _ (@h_ix _ _ _ _ _ _ (@hv _ 0 _ _ (by rfl) (by walk_at "3") (by decide) (by decide)) a0j (by intro _ _; rfl))) (@a2J _ _ 3 _ a2w.nd (by rfl) (by walk_at "2") (by walk_at "4")) (@a0l _ _ _ (@b3m _ _ _ _ _ _ _ _ _ _ _ _ _ _ 2 _ _ _ rfl (@a3K _ _ _ _ (@hv _ 2 _ _ (by rfl) (by walk_at "3") (by decide) (by decide))) (@a0T _ (a0b a1s) _ (["plait", "places", "rows", "letter"]) (["row", "letter"]) ([none, some 3]) (by decide +kernel) rfl rfl) a2c (fun _ _ _ _ _ => @a1y _ _ 0 _ (show List.Nodup (["row", "letter"] : List Str) by decide +kernel) rfl (Or.inl rfl) (Or.inr rfl)) (fun _ _ _ _ _ => a2P) (fun _ _ _ _ _ => (@a0r _ _ _ _ _ _ _ _ _ _ D_with_letter hr (@a0a _ _ _ _ _ (@hv _ 0 _ _ (by rfl) (by walk_at "3") (by decide) (by decide)) (@a0a _ _ _ _ _ (@hv _ 1 _ _ (by rfl) (by walk_at "3") (by decide) (by decide)) a0f (by rfl)) (by rfl)) (by rfl) (by decide) (by rfl) (by rfl))) a2w.nd (by rfl) (by walk_at "2") (by rfl) (by intro _; rfl) (by walk_at "4"))) (by intro _; rfl)) (@a0l _ _ _ (@a1h _ _ _ _ (@hv _ 2 _ _ (by rfl) (by walk_at "3") (by decide) (by decide)))))))), fun ts M Q h => ?_⟩
 unfold a2X at h
 split at h
 ·rename_i n w
  obtain ⟨ws, rfl, ok, h⟩ := h
  walk_at "rd"
  refine ⟨ws, rfl, ok, ?_⟩
  obtain ⟨o1, o2, o3, o4⟩ := id ok
  refine ⟨⟨by lia, by lia⟩, fun p hp => ?_⟩
  have hS0 := Sub.new hp (o := MO.lst (a0w 0 n.toNat))
  have hMp : (updM M p (MO.lst (a0w 0 n.toNat))) p = some (.lst ((a0g n).map T.int)) := by rw [a0c, a4j]
  generalize updM M p (MO.lst (a0w 0 n.toNat)) = M0 at hS0 hMp ⊢
  rw [a4j]
  have hlen := a0e n
  refine ⟨fun i ys M' => (∃ as : List Addr, ys = as.map T.adr ∧ a2n M' as ((idP n).take i) ∧ FrP M as ∧ as.Nodup) ∧ Sub M0 M', ⟨⟨[], rfl, a2n.nil, fun _ z => absurd z List.not_mem_nil, .nil⟩, Sub.refl⟩, ?_, a0Z (by rw [List.length_map, hlen]; lia), ?_, ?_⟩
  ·rintro i ys M' ⟨_, hS⟩
   exact hS _ _ hMp
  ·rintro i x ys M' hx ⟨⟨as, rfl, hR, hF, hN⟩, hS⟩
   obtain ⟨r, hx2, rfl⟩ := a0W hx
   rw [hS _ _ hMp]
   dsimp only
   refine ⟨fun j zs M2 => zs = (((a0g n).take j).map fun c => oneP r c).map poT ∧ M2 = M', ⟨rfl, rfl⟩, ?_, a0Z (by rw [List.length_map, hlen]; lia), ?_, ?_⟩
   ·rintro j zs M2 ⟨_, rfl⟩
    exact hS _ _ hMp
   ·rintro j y zs M2 hy ⟨rfl, rfl⟩
    obtain ⟨c, hy2, rfl⟩ := a0W hy
    show _ ∧ _
    refine ⟨?_, rfl⟩
    rw [← a1p (fun c => oneP r c) hy2, List.map_append]; rfl
   ·rintro zs M2 ⟨rfl, rfl⟩ a ha
    rw [List.length_map, List.take_length]
    have e : (idP n)[i]? = some ((a0g n).map fun c => oneP r c) := by
     unfold idP
     rw [List.getElem?_map, hx2]; rfl
    have hSa := Sub.new ha (o := MO.lst (((a0g n).map fun c => oneP r c).map poT))
    refine ⟨⟨as ++ [a], by rw [List.map_append]; rfl, ?_, hF.snoc (a4N (hS0.trans hS) ha), hR.nd hN ha⟩, hS.trans hSa⟩
    rw [show (idP n).take (i + 1) = (idP n).take i ++ [(a0g n).map fun c => oneP r c] by rw [List.take_add_one, e]; rfl]
    exact (hR.sub hSa).snoc a0c
  ·rintro ys M' ⟨⟨as, rfl, hR, hF, hN⟩, hS⟩ q hq
   have e : (idP n).take ((a0g n).map T.int).length = idP n := by
    rw [List.length_map]
    exact List.take_of_length_le (by unfold idP; rw [List.length_map]; exact Nat.le_refl _)
   rw [e] at hR
   have hSq := Sub.new hq (o := MO.lst (as.map T.adr))
   have hqM := a4N (hS0.trans hS) hq
   have hMq : (updM M' q (MO.lst (as.map T.adr))) q = some (.lst (as.map T.adr)) := a0c
   have hR2 := hR.sub hSq
   have hS2 := (hS0.trans hS).trans hSq
   generalize updM M' q (MO.lst (as.map T.adr)) = M3 at hMq hR2 hS2 ⊢
   clear hR hSq hq hS hMp hS0
   refine a3W fun B hB => ?_
   unfold a6l
   walk_at "rd"
   refine ⟨fun i ρ M' => (∃ (q : Addr) (as : List Addr) (x3 : Option T), ρ = [some (T.tup [T.int n, T.tup (ws.map T.int)]), some (T.adr p), some (T.adr q), x3] ∧ M' q = some (.lst (as.map T.adr)) ∧ a2n M' as (tabP n (ws.take i)) ∧ FrP M as ∧ M q = none ∧ as.Nodup) ∧ Sub M M', ⟨⟨q, as, _, rfl, hMq, hR2, hF, hqM, hN⟩, hS2⟩, fun _ _ _ _ => trivial, ?_, ?_⟩
   ·rintro i x ρ M' hx ⟨⟨q, as, x3, rfl, hq, hR, hF, hqM, hN⟩, hS⟩
    obtain ⟨l, hx2, rfl⟩ := a0W hx
    obtain ⟨z1, z2⟩ := o4 l (List.mem_of_getElem? hx2)
    have hG := a0P (n := n) (ws := ws.take i) (fun y hy => o4 y (List.mem_of_mem_take hy))
    have hil : (ws.take i).length ≤ 16 := Nat.le_trans (by rw [List.length_take]; exact Nat.min_le_right _ _) o3
    have hpow : 3 ^ (ws.take i).length < 2 ^ 60 := Nat.lt_of_le_of_lt (Nat.pow_le_pow_right (by decide) hil) (by decide)
    have htab : tabP n (ws.take (i + 1)) = (tabP n (ws.take i)).map fun ps => wlP ps l := by
     rw [show ws.take (i + 1) = ws.take i ++ [l] by rw [List.take_add_one, hx2]; rfl, a8r]
    rw [hB]; clear hB
    walk_at "rd"
    rw [hq]
    dsimp only
    generalize tabP n (ws.take i) = rs at hR hG htab
    have has : as.length = rs.length := hR.1
    refine ⟨fun j ys M2 => (∃ bs : List Addr, ys = bs.map T.adr ∧ a2n M2 bs ((rs.take j).map fun ps => wlP ps l) ∧ FrP M bs ∧ bs.Nodup) ∧ Sub M' M2, ⟨⟨[], rfl, a2n.nil, fun _ z => absurd z List.not_mem_nil, .nil⟩, Sub.refl⟩, ?_, a0Z (by rw [List.length_map, has, hG.1]; lia), ?_, ?_⟩
    ·rintro j ys M2 ⟨_, hS2⟩
     exact hS2 _ _ hq
    ·rintro j y ys M2 hy ⟨⟨bs, rfl, hR2, hF2, hN2⟩, hS2⟩
     obtain ⟨a, ha, rfl⟩ : ∃ a, as[j]? = some a ∧ T.adr a = y := by
      rw [List.getElem?_map] at hy
      exact Option.map_eq_some_iff.mp hy
     obtain ⟨ps, eps⟩ : ∃ ps, rs[j]? = some ps := ⟨_, List.getElem?_eq_getElem (by rw [← has]; exact (List.getElem?_eq_some_iff.mp ha).1)⟩
     have hMa := hS2 _ _ (hR.2 j a ps ha eps)
     obtain ⟨g1, g2⟩ := hG.2 ps (List.mem_of_getElem? eps)
     refine ⟨ps, _, _, hMa, by lia, by rw [g1]; lia, by rw [g1]; lia, g2, by lia, hpow, fun t M5 ht hS5 ht5 => ?_⟩
     have ej : (rs.take (j + 1)).map (fun ps => wlP ps l) = (rs.take j).map (fun ps => wlP ps l) ++ [wlP ps l] := by
      rw [List.take_add_one, eps, List.map_append]; rfl
     refine ⟨⟨bs ++ [t], by rw [List.map_append]; rfl, by rw [ej]; exact (hR2.sub hS5).snoc ht5, hF2.snoc (a4N (hS.trans hS2) ht), hR2.nd hN2 ht⟩, hS2.trans hS5⟩
    ·rintro ys M2 ⟨⟨bs, rfl, hR2, hF2, hN2⟩, hS2⟩ v hv
     rw [List.length_map, has, List.take_length, ← htab] at hR2
     have hSv := Sub.new hv (o := MO.lst (bs.map T.adr))
     exact ⟨⟨v, bs, _, rfl, a0c, hR2.sub hSv, hF2, a4N (hS.trans hS2) hv, hN2⟩, (hS.trans hS2).trans hSv⟩
   ·rintro ρ M' ⟨⟨q, as, x3, rfl, hq, hR, hF, hqM, hN⟩, hS⟩
    try rw [List.length_map] at hR
    rw [List.take_length] at hR
    show rt3 M Q (T.adr q) M'
    exact a1j (h q as M' hqM hS hq hR hF hN) Sub.refl
 ·exact h.elim
noncomputable def a0U : Nat → Sp3
 | 0 => fun _ _ _ => False
 | k + 1 => fun ts M Q => ∃ (r : Addr) (as : List Addr) (rs : List (List Po)) (a b : Nat), ts = [.adr r] ∧ M r = some (.lst (as.map T.adr)) ∧ a2n M as rs ∧ rs.length ≤ k ∧ rs.length ≤ 6 ∧ b0M rs.length a b rs ∧ rs.length * (a + b) ≤ 62 ∧ Q (poT (detP (rs.length + 1) rs)) M
theorem a5Q {k : Nat} {ts : List T} {M : MH} {Q : VK3} (h : a0U (k + 1) ts M Q) : ts.length = 1 := by
 obtain ⟨_, _, _, _, _, rfl, _⟩ := h
 rfl
theorem b1G {k a b : Nat} {r : Addr} {as : List Addr} {rs : List (List Po)} {M : MH} {Q : VK3} (hr : M r = some (.lst (as.map T.adr))) (hR : a2n M as rs) (hk : rs.length ≤ k) (h6 : rs.length ≤ 6) (hG : b0M rs.length a b rs) (h1 : rs.length * (a + b) ≤ 62) (h : Q (poT (detP (rs.length + 1) rs)) M) : a0U (k + 1) [.adr r] M Q := by
 unfold a0U
 exact ⟨r, as, rs, a, b, rfl, hr, hR, hk, h6, hG, h1, h⟩
theorem a5j {P : Program} {w : World} {K : PySem.W.Frag} {mg : Str → Option Value} {base : Heap} {f : Addr} {fd : FuncData} {n : Nat} (F : Fun K "determinant" "determinant" a0R f fd) (hm : mg "determinant" = some (.ref f)) (hb : a1K K fd ["rows"] []) : Df P w K mg base (n + 1) "determinant" ["rows"] (a0U 0) := F.dfn hm hb a0y (fun ts M Q h => h.elim) ⟨fun _ _ _ => False, fun cdv A outer s H E hr => b4b, fun ts M Q h => h.elim⟩
theorem a1e {P : Program} {w : World} {K : PySem.W.Frag} {mg : Str → Option Value} {base : Heap} {f : Addr} {fd : FuncData} {n : Nat}  {k : Nat} (F : Fun K "determinant" "determinant" a0R f fd) (hm : mg "determinant" = some (.ref f)) (hb : a1K K fd ["rows"] []) (Z : Zs K mg) (D_determinant : Df P w K mg base n "determinant" ["rows"] (a0U k)) (D_added : Df P w K mg base n "added" ["one", "other"] a2H) (D_multiplied : Df P w K mg base n "multiplied" ["one", "other"] a0G) : Df P w K mg base (n + 1) "determinant" ["rows"] (a0U (k + 1)) := by
 obtain ⟨tk_ONE, c_ONE⟩ := Z.c_ONE
 obtain ⟨tk_NOUGHT, c_NOUGHT⟩ := Z.c_NOUGHT
 obtain ⟨tk_LESS_ONE, c_LESS_ONE⟩ := Z.c_LESS_ONE
 refine F.dfn hm hb a0y (by intro ts M Q h; exact a5Q h) ⟨_, fun cdv A outer s H E hr => (@a0d _ _ _ _ _ (@s_if _ _ _ _ _ _ _ _ (@b6h _ _ _ _ (@a5S _ _ _ (@hv _ 0 _ _ (by rfl) (by walk_at "3") (by decide) (by decide)) (by intro _; rfl))) (@a0l _ _ _ (@a1h _ _ _ _ (@a2o _ _ _ _ _ c_ONE (by rfl) (by decide)))) a2E) (@a0d _ _ _ _ _ (@a1t _ _ _ _ 1 _ _ (@a2o _ _ _ _ _ c_NOUGHT (by rfl) (by decide)) a0y.nd (by rfl) (by walk_at "2") (by rfl) (by walk_at "4")) (@a0d _ _ _ _ _ (@a1t _ _ _ _ 2 _ _ (@a2o _ _ _ _ _ c_ONE (by rfl) (by decide)) a0y.nd (by rfl) (by walk_at "2") (by rfl) (by walk_at "4")) (@a0d _ _ _ _ _ (@a8C _ _ _ _ _ _ _ _ PassesOwn.never rfl (@c0N _ _ _ _ _ _ _ _ Z.b_enumerate (@h_ix _ _ _ _ _ _ (@hv _ 0 _ _ (by rfl) (by walk_at "3") (by decide) (by decide)) a0j (by intro _ _; rfl)) (by rfl) (by rfl)) (@b4m _ _ _ _ _ 2 rfl (@a2M _ _ _ _ _ (@a2J _ _ 3 _ a0y.nd (by rfl) (by walk_at "2") (by walk_at "4")) (@a2M _ _ _ _ _ (@a2J _ _ 4 _ a0y.nd (by rfl) (by walk_at "2") (by walk_at "4")) a9d (by rfl)) (by rfl)) (by rfl) (by rfl)) (@a0d _ _ _ _ _ (@s_if _ _ _ _ _ _ _ _ (@a5S _ _ _ (@hv _ 4 _ _ (by rfl) (by walk_at "3") (by decide) (by decide)) (by intro _; rfl)) (@a0d _ _ _ _ _ (@a1t _ _ _ _ 5 _ _ (@a0r _ _ _ _ _ _ _ _ _ _ D_determinant hr (@a0a _ _ _ _ _ (@a3v _ _ _ _ _ _ _ _ _ _ _ _ _ _ rfl (@a3K _ _ _ _ (@a3U _ _ _ _ _ _ _ _ _ (@hv _ 0 _ _ (by rfl) (by walk_at "3") (by decide) (by decide)) (@a5c _ _ _ a0j) a5M)) (@a0T _ (a0b a0R) _ (["rows", "whole", "sign", "column", "here", "rest"]) (["row", "column"]) ([none, some 3]) (by decide +kernel) rfl rfl) a2c (fun _ _ _ _ _ => @a1y _ _ 0 _ (show List.Nodup (["row", "column"] : List Str) by decide +kernel) rfl (Or.inl rfl) (Or.inr rfl)) (fun _ _ _ _ _ => a2P) (fun _ _ _ _ _ => (@a0E _ _ _ _ _ _ _ _ a0I (@a3U _ _ _ _ _ _ _ _ _ (@hv _ 0 _ _ (by rfl) (by walk_at "3") (by decide) (by decide)) a5M (@a5c _ _ _ (@hv _ 1 _ _ (by rfl) (by walk_at "3") (by decide) (by decide)))) (@a3U _ _ _ _ _ _ _ _ _ (@hv _ 0 _ _ (by rfl) (by walk_at "3") (by decide) (by decide)) (@a5c _ _ _ (@a0E _ _ _ _ _ _ _ _ a0I (@hv _ 1 _ _ (by rfl) (by walk_at "3") (by decide) (by decide)) a0j)) a5M))) (by intro _; rfl)) a0f (by rfl)) (by rfl) (by decide) (by rfl) (by rfl)) a0y.nd (by rfl) (by walk_at "2") (by rfl) (by walk_at "4")) (@a0l _ _ _ (@a1t _ _ _ _ 1 _ _ (@a0r _ _ _ _ _ _ _ _ _ _ D_added hr (@a0a _ _ _ _ _ (@hv _ 1 _ _ (by rfl) (by walk_at "3") (by decide) (by decide)) (@a0a _ _ _ _ _ (@a0r _ _ _ _ _ _ _ _ _ _ D_multiplied hr (@a0a _ _ _ _ _ (@a0r _ _ _ _ _ _ _ _ _ _ D_multiplied hr (@a0a _ _ _ _ _ (@hv _ 4 _ _ (by rfl) (by walk_at "3") (by decide) (by decide)) (@a0a _ _ _ _ _ (@hv _ 5 _ _ (by rfl) (by walk_at "3") (by decide) (by decide)) a0f (by rfl)) (by rfl)) (by rfl) (by decide) (by rfl) (by rfl)) (@a0a _ _ _ _ _ (@hv _ 2 _ _ (by rfl) (by walk_at "3") (by decide) (by decide)) a0f (by rfl)) (by rfl)) (by rfl) (by decide) (by rfl) (by rfl)) a0f (by rfl)) (by rfl)) (by rfl) (by decide) (by rfl) (by rfl)) a0y.nd (by rfl) (by walk_at "2") (by rfl) (by walk_at "4")))) a2E) (@a0l _ _ _ (@a1t _ _ _ _ 2 _ _ (@a0r _ _ _ _ _ _ _ _ _ _ D_multiplied hr (@a0a _ _ _ _ _ (@hv _ 2 _ _ (by rfl) (by walk_at "3") (by decide) (by decide)) (@a0a _ _ _ _ _ (@a2o _ _ _ _ _ c_LESS_ONE (by rfl) (by decide)) a0f (by rfl)) (by rfl)) (by rfl) (by decide) (by rfl) (by rfl)) a0y.nd (by rfl) (by walk_at "2") (by rfl) (by walk_at "4")))) (by intro _; rfl)) (@a0l _ _ _ (@a1h _ _ _ _ (@hv _ 1 _ _ (by rfl) (by walk_at "3") (by decide) (by decide)))))))), fun ts M Q h => ?_⟩
 obtain ⟨r, as, rs, ia, ib, rfl, hr, hR, hk, h6, hG, hmb, h⟩ := h
 refine a0C fun K1 hK1 => ?_
 walk_at "rd"
 rw [hr]
 have hlen := hR.1
 cases rs with
 | nil =>
   cases as with
   | nil =>
     dsimp only
     rw [show (!(List.map T.adr []).isEmpty) = false from rfl, if_pos rfl]
     exact a0B h
   | cons a as => cases hlen
 | cons ps rs =>
   cases as with
   | nil => cases hlen
   | cons a as =>
     dsimp only
     rw [if_neg (show ¬ (!(List.map T.adr (a :: as)).isEmpty) = false by intro z; cases z)]
     obtain ⟨g1, g2⟩ := hG.2 ps (.head _)
     have g3 : ∀ qs ∈ rs, qs.length = rs.length + 1 ∧ ∀ p ∈ qs, GdI ia ib p ∧ Sml p := fun qs hq => hG.2 qs (.tail _ hq)
     have hMa := hR.2 0 a ps rfl rfl
     have hpl : ps.length = rs.length + 1 := g1
     have hR' : a2n M as rs := ⟨by rw [List.length_cons, List.length_cons] at hlen; lia, fun i x l h1 h2 => hR.2 (i + 1) x l (by simpa using h1) (by simpa using h2)⟩
     rw [List.length_cons] at hk h6 hmb
     have hmb2 : (rs.length + 1) * (ia + ib) = rs.length * ia + rs.length * ib + (ia + ib) := by rw [Nat.add_mul, Nat.one_mul, Nat.mul_add]
     have hma : (rs.length + 1) * ia = rs.length * ia + ia := by rw [Nat.add_mul, Nat.one_mul]
     have hmbb : (rs.length + 1) * ib = rs.length * ib + ib := by rw [Nat.add_mul, Nat.one_mul]
     have hmm : rs.length * (ia + ib) = rs.length * ia + rs.length * ib := Nat.mul_add ..
     have hf : ∀ c, c < ps.length → GdI (rs.length * ia) (rs.length * ib) (detP (rs.length + 1) (a1X c rs)) := fun c hc => a1O _ (a3Y g3 (by rw [← hpl]; exact hc) rfl)
     change Q (poT ((List.range ps.length).foldl (a4C ps fun c => detP (rs.length + 1) (a1X c rs)) [])) M at h
     have hsum := a3X (m := rs.length) g2 hf
     rw [hK1]; clear hK1
     refine b0W fun K2 hK2 => ?_
     walk_at "rd"
     refine a3W fun Bd hBd => ?_
     unfold a6l
     walk_at "rd"
     rw [hr]
     dsimp only
     rw [List.map_cons, b6z]
     dsimp only
     rw [hMa]
     dsimp only
     refine ⟨fun c ρ M' => (∃ (x3 x4 x5 : Option T), ρ = [some (T.adr r), some (poT ((List.range c).foldl (a4C ps fun c => detP (rs.length + 1) (a1X c rs)) [])), some (poT (sgnP c)), x3, x4, x5]) ∧ Sub M M', ⟨⟨_, _, _, rfl⟩, Sub.refl⟩, ?_, ?_, ?_⟩
     ·rintro c ρ M' ⟨_, hS⟩
      exact hS _ _ hMa
     ·rintro c x ρ M' hx ⟨⟨x3, x4, x5, rfl⟩, hS⟩
      obtain ⟨t, ht, rfl⟩ := b4A hx
      obtain ⟨p, ep, rfl⟩ : ∃ p, ps[c]? = some p ∧ poT p = t := by
       rw [List.getElem?_map] at ht
       exact Option.map_eq_some_iff.mp ht
      have hc : c < ps.length := (List.getElem?_eq_some_iff.mp ep).1
      have ed : ps.getD c [] = p := by rw [List.getD_eq_getElem?_getD, ep]; rfl
      have hgp := g2 p (List.mem_of_getElem? ep)
      have hacc := hsum c (by lia)
      dsimp only
      refine ⟨rfl, rfl, ?_⟩
      rw [a4U]
      generalize hA : (List.range c).foldl (a4C ps fun c => detP (rs.length + 1) (a1X c rs)) [] = acc at hacc ⊢
      have hstep : a4C ps (fun c => detP (rs.length + 1) (a1X c rs)) acc c = if p = [] then acc else addP acc (a0K (a0K p (detP (rs.length + 1) (a1X c rs))) (sgnP c)) := by unfold a4C; rw [ed]
      rw [hstep]
      rw [hBd]; clear hBd
      refine a0C fun K3 hK3 => ?_
      walk_at "rd"
      have fin : ∀ (M5 : MH) (x5' : Option T) (acc' : Po), acc' = (if p = [] then acc else addP acc (a0K (a0K p (detP (rs.length + 1) (a1X c rs))) (sgnP c))) → Sub M M5 → K3 [some (T.adr r), some (poT acc'), some (poT (sgnP c)), some (T.int c), some (poT p), x5'] M5 := fun M5 x5' acc' e hS5 => by
       rw [hK3]; clear hK3
       walk_at "rd"
       refine a5N (q := [(0, -1)]) (a7R c) b1x (by decide) (.inr (by unfold Sml; decide)) ?_
       exact ⟨⟨_, _, _, by rw [e]; rfl⟩, hS5⟩
      cases p with
      | nil =>
        show (if false = true then _ else _)
        rw [if_neg (by decide)]
        exact fin M' _ acc rfl hS
      | cons y p =>
        show (if true = true then _ else _)
        rw [if_pos rfl, hS _ _ hr]
        intro s hs
        have ecut : cutT ((a :: as).map T.adr) (some 1) none = as.map T.adr := by
         rw [a4Z _ _ (by decide)]; rfl
        rw [ecut]
        have hSs := Sub.new hs (o := MO.lst (as.map T.adr))
        have hMs : (updM M' s (MO.lst (as.map T.adr))) s = some (.lst (as.map T.adr)) := a0c
        have hR4 := (hR'.sub hS).sub hSs
        have hS4 := hS.trans hSs
        generalize updM M' s (MO.lst (as.map T.adr)) = M4 at hMs hR4 hS4 ⊢
        clear hSs hs
        have has : as.length = rs.length := hR'.1
        refine ⟨fun j ys M2 => (∃ bs : List Addr, ys = bs.map T.adr ∧ a2n M2 bs (a1X c (rs.take j))) ∧ Sub M4 M2, ⟨⟨[], rfl, a2n.nil⟩, Sub.refl⟩, ?_, a0Z (by rw [List.length_map]; lia), ?_, ?_⟩
        ·rintro j ys M2 ⟨_, hS2⟩
         exact hS2 _ _ hMs
        ·rintro j x ys M2 hx ⟨⟨bs, rfl, hR2⟩, hS2⟩
         obtain ⟨ai, hai, rfl⟩ : ∃ ai, as[j]? = some ai ∧ T.adr ai = x := by
          rw [List.getElem?_map] at hx
          exact Option.map_eq_some_iff.mp hx
         obtain ⟨qs, eqs⟩ : ∃ qs, rs[j]? = some qs := ⟨_, List.getElem?_eq_getElem (by rw [← has]; exact (List.getElem?_eq_some_iff.mp hai).1)⟩
         have hMi := hS2 _ _ (hR4.2 j ai qs hai eqs)
         have hql := (g3 qs (List.mem_of_getElem? eqs)).1
         dsimp only
         rw [hMi]
         intro c1 hc1
         have e1 : cutT (qs.map poT) none (some (c : Int)) = (qs.take c).map poT := by rw [b1I _ _ (by lia), List.map_take]; rfl
         have e2 : cutT (qs.map poT) (some ((c : Int) + 1)) none = (qs.drop (c + 1)).map poT := by rw [show (c : Int) + 1 = ((c + 1 : Nat) : Int) by lia, a4Z _ _ (by lia), List.map_drop]; rfl
         rw [e1]
         have hS5 := Sub.new hc1 (o := MO.lst ((qs.take c).map poT))
         have h5i := hS5 _ _ hMi
         have h5c : (updM M2 c1 (MO.lst ((qs.take c).map poT))) c1 = some (.lst ((qs.take c).map poT)) := a0c
         generalize updM M2 c1 (MO.lst ((qs.take c).map poT)) = M5 at hS5 h5i h5c ⊢
         rw [h5i]
         dsimp only
         intro c2 hc2
         rw [e2]
         have hS6 := Sub.new hc2 (o := MO.lst ((qs.drop (c + 1)).map poT))
         have h6c := hS6 _ _ h5c
         have h6d : (updM M5 c2 (MO.lst ((qs.drop (c + 1)).map poT))) c2 = some (.lst ((qs.drop (c + 1)).map poT)) := a0c
         generalize updM M5 c2 (MO.lst ((qs.drop (c + 1)).map poT)) = M6 at hS6 h6c h6d ⊢
         rw [h6c]
         dsimp only
         refine ⟨a3s (by rw [List.length_map, List.length_map, List.length_take, List.length_drop]; lia), fun v hv => ?_⟩
         have hSv := Sub.new hv (o := MO.lst ((qs.take c).map poT ++ (qs.drop (c + 1)).map poT))
         have ej : a1X c (rs.take (j + 1)) = a1X c (rs.take j) ++ [qs.take c ++ qs.drop (c + 1)] := by
          unfold a1X
          rw [List.take_add_one, eqs, List.map_append]; rfl
         have hRv := (((hR2.sub hS5).sub hS6).sub hSv).snoc (ps := qs.take c ++ qs.drop (c + 1)) (a := v) (by rw [a0c, List.map_append])
         refine ⟨⟨bs ++ [v], by rw [List.map_append]; rfl, by rw [ej]; exact hRv⟩, ((hS2.trans hS5).trans hS6).trans hSv⟩
        ·rintro ys M2 ⟨⟨bs, rfl, hR2⟩, hS2⟩ v hv
         rw [List.length_map, has, List.take_length] at hR2
         have hSv := Sub.new hv (o := MO.lst (bs.map T.adr))
         have hMv : (updM M2 v (MO.lst (bs.map T.adr))) v = some (.lst (bs.map T.adr)) := a0c
         have hR7 := hR2.sub hSv
         have hS7 := (hS4.trans hS2).trans hSv
         generalize updM M2 v (MO.lst (bs.map T.adr)) = M7 at hMv hR7 hS7 ⊢
         have hdl : (a1X c rs).length = rs.length := by unfold a1X; rw [List.length_map]
         have hGd : b0M rs.length ia ib (a1X c rs) := a3Y g3 (by rw [← hpl]; exact hc) rfl
         cases k with
         | zero => lia
         | succ k =>
           refine b1G (a := ia) (b := ib) hMv hR7 (by rw [hdl]; lia) (by rw [hdl]; lia) (by rw [hdl]; exact hGd) (by rw [hdl, hmm]; lia) ?_
           rw [hdl]
           have hgd := hf c hc
           refine a5N hgp.1 hgd (by lia) (.inl hgp.2) ?_
           refine a5N (hgp.1.mul hgd) (a7R c) (by lia) (.inr (b8y (a7O c) (by decide))) ?_
           refine b5a hacc ((hgp.1.mul hgd).mul (a7R c) |>.mono (c := (rs.length + 1) * ia) (d := (rs.length + 1) * ib) (by lia) (by lia)) (by lia) ?_
           exact fin M7 _ _ (by rw [if_neg (by intro z; cases z)]) hS7
     ·rintro ρ M' ⟨⟨x3, x4, x5, rfl⟩, hS⟩
      rw [a4W, List.length_map]
      rw [hK2]; clear hK2
      walk_at "rd"
      exact a1j h hS
noncomputable def a2e : Sp3 := fun ts M Q => match ts with
 | [.tup a] => ∃ (p : Po) (c b : Nat), a = p.map prT ∧ GdI c b p ∧ c + b ≤ 62 ∧ Q (poT (a7S p)) M
 | _ => False
theorem a6o {P : Program} {w : World} {K : PySem.W.Frag} {mg : Str → Option Value} {base : Heap} {f : Addr} {fd : FuncData} {n : Nat}  (F : Fun K "from_nought" "from_nought" a1u f fd) (hm : mg "from_nought" = some (.ref f)) (hb : a1K K fd ["whole"] []) (Z : Zs K mg) (D_multiplied : Df P w K mg base n "multiplied" ["one", "other"] a0G) : Df P w K mg base (n + 1) "from_nought" ["whole"] a2e := by
 obtain ⟨tk_NOUGHT, c_NOUGHT⟩ := Z.c_NOUGHT
 refine F.dfn hm hb a2L (by intro ts M Q h; unfold a2e at h; first | (split at h <;> first | rfl | exact h.elim) | (obtain ⟨_, _, _, _, _, rfl, _⟩ := h; rfl) | (obtain ⟨_, _, _, _, rfl, _⟩ := h; rfl) | (obtain ⟨_, _, _, rfl, _⟩ := h; rfl) | (obtain ⟨_, _, rfl, _⟩ := h; rfl) | (obtain ⟨_, rfl, _⟩ := h; rfl)) ⟨_, fun cdv A outer s H E hr => (@a0d _ _ _ _ _ (@s_if _ _ _ _ _ _ _ _ (@b6h _ _ _ _ (@a5S _ _ _ (@hv _ 0 _ _ (by rfl) (by walk_at "3") (by decide) (by decide)) (by intro _; rfl))) (@a0l _ _ _ (@a1h _ _ _ _ (@a2o _ _ _ _ _ c_NOUGHT (by rfl) (by decide)))) a2E) (@a0d _ _ _ _ _ (@a1t _ _ _ _ 1 _ _ (@h_ix _ _ _ _ _ _ (@hv _ 0 _ _ (by rfl) (by walk_at "3") (by decide) (by decide)) a0j (by intro _ _; rfl)) a2L.nd (by rfl) (by walk_at "2") (by rfl) (by walk_at "4")) (@a0d _ _ _ _ _ (@a1t _ _ _ _ 2 _ _ (@b8K _ _ _ _ _ _ _ _ (@a1W _ _ _ _ _ _ _ _ b1i (@h_ix _ _ _ _ _ _ (@hv _ 1 _ _ (by rfl) (by walk_at "3") (by decide) (by decide)) a0j (by intro _ _; rfl)) a0j (@a1C _ _ (by decide) (by decide))) a0j (@h_un _ _ _ _ _ _ a4z a0j)) a2L.nd (by rfl) (by walk_at "2") (by rfl) (by walk_at "4")) (@a0l _ _ _ (@a1h _ _ _ _ (@a0r _ _ _ _ _ _ _ _ _ _ D_multiplied hr (@a0a _ _ _ _ _ (@hv _ 0 _ _ (by rfl) (by walk_at "3") (by decide) (by decide)) (@a6h _ _ _ _ _ _ _ (@a7N _ _ _ _ _ (@a6h _ _ _ _ _ _ _ (@a7N _ _ _ _ _ (@a0a _ _ _ _ _ (@h_un _ _ _ _ _ _ a4z (@h_ix _ _ _ _ _ _ (@hv _ 1 _ _ (by rfl) (by walk_at "3") (by decide) (by decide)) a0j (by intro _ _; rfl))) (@a0a _ _ _ _ _ (@hv _ 2 _ _ (by rfl) (by walk_at "3") (by decide) (by decide)) a0f (by rfl)) (by rfl))) a0f)) a0f) (by rfl)) (by rfl) (by decide) (by rfl) (by rfl))))))), fun ts M Q h => ?_⟩
 unfold a2e at h
 split at h
 ·rename_i a
  obtain ⟨p, c, b, rfl, hg, hb, h⟩ := h
  cases p with
  | nil =>
    refine a0C fun K1 hK1 => ?_
    walk_at "rd"
    exact a0B h
  | cons x p =>
    refine a0C fun K1 hK1 => ?_
    walk_at "rd"
    rw [if_neg (show ¬ (!(List.map prT (x :: p)).isEmpty) = false by intro z; cases z)]
    rw [hK1]; clear hK1
    refine a0C fun K2 hK2 => ?_
    walk_at "rd"
    rw [List.map_cons, b6z]
    dsimp only
    rw [hK2]; clear hK2
    refine a0C fun K3 hK3 => ?_
    walk_at "rd"
    have key : ∀ g : Int, g = (if 0 < x.2 then 1 else -1) → K3 [some (T.tup (prT x :: List.map prT p)), some (prT x), some (T.int g)] M := fun g e => by
     rw [hK3]; clear hK3
     walk_at "rd"
     rw [show prT x = T.tup [T.int x.1, T.int x.2] from rfl]
     dsimp only
     rw [b6z]
     dsimp only
     have hlen := hg.1.lenI hg.2
     have hsg : Sml [(-x.1, g)] := fun y hy => by
      rw [List.mem_singleton.mp hy]
      show g.natAbs < 2 ^ 64
      rw [e]; split <;> decide
     refine ⟨by decide, by decide, x :: p, [(-x.1, g)], (x :: p).map fun y => y.1 + -x.1, rfl, rfl, by rw [List.length_map]; lia, fun y hy z hz => ?_, Or.inr hsg, by lia, by show 1 ≤ 5000; decide, ?_⟩
     ·rw [List.mem_singleton.mp hz]
      exact List.mem_map.mpr ⟨y, hy, rfl⟩
     ·rw [e]
      exact a0B h
    rw [show prT x = T.tup [T.int x.1, T.int x.2] from rfl] at key ⊢
    dsimp only
    rw [c1i]
    dsimp only
    refine ite2 (fun c => key _ (by rw [if_pos c])) (fun c => key _ (by rw [if_neg c]))
 ·exact h.elim
noncomputable def a1R : Sp3 := fun ts M Q => match ts with
 | [.tup [.int n, .tup w]] => ∃ ws : List Int, w = ws.map .int ∧ PlOK n ws ∧ a9G n ws ∧ Q (poT (a0s n ws)) M
 | _ => False
theorem a7C {P : Program} {w : World} {K : PySem.W.Frag} {mg : Str → Option Value} {base : Heap} {f : Addr} {fd : FuncData} {n : Nat}  (F : Fun K "closed_sum" "closed_sum" a1i f fd) (hm : mg "closed_sum" = some (.ref f)) (hb : a1K K fd ["plait"] []) (Z : Zs K mg) (D_table_of : Df P w K mg base n "table_of" ["plait"] a2X) (D_added : Df P w K mg base n "added" ["one", "other"] a2H) (D_one_where_same : Df P w K mg base n "one_where_same" ["row", "column"] a0J) (D_multiplied : Df P w K mg base n "multiplied" ["one", "other"] a0G) (D_from_nought : Df P w K mg base n "from_nought" ["whole"] a2e) (D_determinant : Df P w K mg base n "determinant" ["rows"] (a0U 6)) : Df P w K mg base (n + 1) "closed_sum" ["plait"] a1R := by
 obtain ⟨tk_LESS_ONE, c_LESS_ONE⟩ := Z.c_LESS_ONE
 refine F.dfn hm hb a1T (by intro ts M Q h; unfold a1R at h; first | (split at h <;> first | rfl | exact h.elim) | (obtain ⟨_, _, _, _, _, rfl, _⟩ := h; rfl) | (obtain ⟨_, _, _, _, rfl, _⟩ := h; rfl) | (obtain ⟨_, _, _, rfl, _⟩ := h; rfl) | (obtain ⟨_, _, rfl, _⟩ := h; rfl) | (obtain ⟨_, rfl, _⟩ := h; rfl)) ⟨_, fun cdv A outer s H E hr => (@a0d _ _ _ _ _ (@a1t _ _ _ _ 1 _ _ (@a0r _ _ _ _ _ _ _ _ _ _ D_table_of hr (@a0a _ _ _ _ _ (@hv _ 0 _ _ (by rfl) (by walk_at "3") (by decide) (by decide)) a0f (by rfl)) (by rfl) (by decide) (by rfl) (by rfl)) a1T.nd (by rfl) (by walk_at "2") (by rfl) (by walk_at "4")) (@a0d _ _ _ _ _ (@a1t _ _ _ _ 2 _ _ (@a9b _ _ _ _ _ _ _ _ Z.b_list Z.b_range (@a0a _ _ _ _ _ a0j (@a0a _ _ _ _ _ (@h_ix _ _ _ _ _ _ (@hv _ 0 _ _ (by rfl) (by walk_at "3") (by decide) (by decide)) a0j (by intro _ _; rfl)) a0f (by rfl)) (by rfl)) (by rfl) (by rfl) (by rfl) (by rfl) (by rfl) (by rfl)) a1T.nd (by rfl) (by walk_at "2") (by rfl) (by walk_at "4")) (@a0d _ _ _ _ _ (@a1t _ _ _ _ 3 _ _ (@b0t _ _ _ _ a0f) a1T.nd (by rfl) (by walk_at "2") (by rfl) (by walk_at "4")) (@a0d _ _ _ _ _ (@a8C _ _ _ _ _ _ _ _ PassesOwn.never rfl (@a3K _ _ _ _ (@hv _ 2 _ _ (by rfl) (by walk_at "3") (by decide) (by decide))) (@a2J _ _ 4 _ a1T.nd (by rfl) (by walk_at "2") (by walk_at "4")) (@a0l _ _ _ (@b0X _ _ _ _ (@a6R _ _ _ _ _ _ _ _ (@hv _ 3 _ _ (by rfl) (by walk_at "3") (by decide) (by decide)) (@a0a _ _ _ _ _ (@a3v _ _ _ _ _ _ _ _ _ _ _ _ _ _ rfl (@a3K _ _ _ _ (@hv _ 2 _ _ (by rfl) (by walk_at "3") (by decide) (by decide))) (@a0T _ (a0b a1i) _ (["plait", "table", "places", "rows", "row"]) (["column", "row", "table"]) ([none, some 4, some 1]) (by decide +kernel) rfl rfl) a2c (fun _ _ _ _ _ => @a1y _ _ 0 _ (show List.Nodup (["column", "row", "table"] : List Str) by decide +kernel) rfl (Or.inl rfl) (Or.inr rfl)) (fun _ _ _ _ _ => a2P) (fun _ _ _ _ _ => (@a0r _ _ _ _ _ _ _ _ _ _ D_added hr (@a0a _ _ _ _ _ (@a0r _ _ _ _ _ _ _ _ _ _ D_one_where_same hr (@a0a _ _ _ _ _ (@hv _ 1 _ _ (by rfl) (by walk_at "3") (by decide) (by decide)) (@a0a _ _ _ _ _ (@hv _ 0 _ _ (by rfl) (by walk_at "3") (by decide) (by decide)) a0f (by rfl)) (by rfl)) (by rfl) (by decide) (by rfl) (by rfl)) (@a0a _ _ _ _ _ (@a0r _ _ _ _ _ _ _ _ _ _ D_multiplied hr (@a0a _ _ _ _ _ (@h_ix _ _ _ _ _ _ (@h_ix _ _ _ _ _ _ (@hv _ 2 _ _ (by rfl) (by walk_at "3") (by decide) (by decide)) (@hv _ 1 _ _ (by rfl) (by walk_at "3") (by decide) (by decide)) (by intro _ _; rfl)) (@hv _ 0 _ _ (by rfl) (by walk_at "3") (by decide) (by decide)) (by intro _ _; rfl)) (@a0a _ _ _ _ _ (@a2o _ _ _ _ _ c_LESS_ONE (by rfl) (by decide)) a0f (by rfl)) (by rfl)) (by rfl) (by decide) (by rfl) (by rfl)) a0f (by rfl)) (by rfl)) (by rfl) (by decide) (by rfl) (by rfl))) (by intro _; rfl)) a0f (by rfl)) (by rfl) (by rfl) (by rfl) (by rfl) (by rfl)) (by rfl))) (by intro _; rfl)) (@a0l _ _ _ (@a1h _ _ _ _ (@a0r _ _ _ _ _ _ _ _ _ _ D_from_nought hr (@a0a _ _ _ _ _ (@a0r _ _ _ _ _ _ _ _ _ _ D_determinant hr (@a0a _ _ _ _ _ (@hv _ 3 _ _ (by rfl) (by walk_at "3") (by decide) (by decide)) a0f (by rfl)) (by rfl) (by decide) (by rfl) (by rfl)) a0f (by rfl)) (by rfl) (by decide) (by rfl) (by rfl)))))))), fun ts M Q h => ?_⟩
 unfold a1R at h
 split at h
 ·rename_i n w
  obtain ⟨ws, rfl, ok, hsm, h⟩ := h
  refine a0C fun K1 hK1 => ?_
  walk_at "rd"
  refine ⟨ws, rfl, ok, fun r as M1 hr hS1 hr1 hR1 hF1 _ => ?_⟩
  show K1 _ _
  obtain ⟨o1, o2, o3, o4⟩ := id ok
  have hG := a0P (n := n) o4
  have hpow : 3 ^ ws.length < 2 ^ 59 := Nat.lt_of_le_of_lt (Nat.pow_le_pow_right (by decide) o3) (by decide)
  have hlT : (a1Y n ws).length = n.toNat - 1 := by unfold a1Y; rw [List.length_map, List.length_range]
  rw [hK1]; clear hK1
  refine b0W fun K2 hK2 => ?_
  walk_at "rd"
  obtain ⟨m, hm⟩ : ∃ m : Nat, n = (m : Int) + 1 := ⟨n.toNat - 1, by lia⟩
  have hmn : n.toNat = m + 1 := by lia
  have hm1 : n.toNat - 1 = m := by lia
  rw [show (n - 1).toNat = m by lia]
  refine ⟨⟨by decide, by decide, by lia, by lia, by lia⟩, fun p hp v hv => ?_⟩
  have hSp := Sub.new hp (o := MO.lst (a0w 1 m))
  have hMp0 : (updM M1 p (MO.lst (a0w 1 m))) p = some (.lst (a0w 1 m)) := a0c
  generalize updM M1 p (MO.lst (a0w 1 m)) = M2 at hSp hMp0 hv ⊢
  have hSv := Sub.new hv (o := MO.lst [])
  have hMv : (updM M2 v (MO.lst [])) v = some (.lst (([] : List Addr).map T.adr)) := a0c
  have hMp := hSv _ _ hMp0
  have hr3 := hSv _ _ (hSp _ _ hr1)
  have hR3 := (hR1.sub hSp).sub hSv
  have hvM : M v = none := a4N (hS1.trans hSp) hv
  have hpv : p ≠ v := fun z => by rw [z, hv] at hMp0; cases hMp0
  have hrv : r ≠ v := fun z => by rw [z] at hr1; rw [hSp _ _ hr1] at hv; cases hv
  have has : as.length = n.toNat := hR1.1.trans hG.1
  have hav : ∀ a ∈ as, a ≠ v := fun a ha z => by
   obtain ⟨j, hj⟩ := List.getElem?_of_mem ha
   obtain ⟨l, el⟩ : ∃ l, (tabP n ws)[j]? = some l := ⟨_, List.getElem?_eq_getElem (by rw [← hR1.1]; exact (List.getElem?_eq_some_iff.mp hj).1)⟩
   rw [← z, (hR1.sub hSp).2 j a l hj el] at hv; cases hv
  have hS3 := (hS1.trans hSp).trans hSv
  generalize updM M2 v (MO.lst []) = M3 at hMv hMp hr3 hR3 hS3 ⊢
  clear hSp hMp0 hSv hv hp hS1 hr1 hR1 hF1 hr
  have hsd : ∀ i, i < m → (a1Y n ws)[i]? = some ((List.range m).map fun c => addP (oneP ((i + 1 : Nat) : Int) ((c + 1 : Nat) : Int)) (a0K (((tabP n ws).getD (i + 1) []).getD (c + 1) []) [(0, -1)])) := fun i hi => by
   unfold a1Y
   rw [hm1, List.getElem?_map, List.getElem?_range hi]; rfl
  refine a3W fun B hB => ?_
  unfold a6l
  walk_at "rd"
  rw [hMp]
  dsimp only
  refine ⟨fun i ρ M' => (∃ (bs : List Addr) (x4 : Option T), ρ = [some (T.tup [T.int n, T.tup (ws.map T.int)]), some (T.adr r), some (T.adr p), some (T.adr v), x4] ∧ M' v = some (.lst (bs.map T.adr)) ∧ a2n M' bs ((a1Y n ws).take i) ∧ ∀ b ∈ bs, b ≠ v) ∧ M' p = some (.lst (a0w 1 m)) ∧ M' r = some (.lst (as.map T.adr)) ∧ a2n M' as (tabP n ws) ∧ Sub M M', ⟨⟨[], _, rfl, hMv, a2n.nil, fun _ z => absurd z List.not_mem_nil⟩, hMp, hr3, hR3, hS3⟩, fun _ _ _ z => z.2.1, ?_, ?_⟩
  ·rintro i x ρ M' hx ⟨⟨bs, x4, rfl, hv4, hB4, hbv⟩, hp4, hr4, hR4, hS4⟩
   obtain ⟨hi, rfl⟩ := a6E hx
   obtain ⟨a, ha⟩ : ∃ a, as[i + 1]? = some a := ⟨_, List.getElem?_eq_getElem (by lia)⟩
   obtain ⟨ps, eps⟩ : ∃ ps, (tabP n ws)[i + 1]? = some ps := ⟨_, List.getElem?_eq_getElem (by rw [hG.1]; lia)⟩
   have hMa := hR4.2 (i + 1) a ps ha eps
   obtain ⟨g1, g2⟩ := hG.2 ps (List.mem_of_getElem? eps)
   have egd : (tabP n ws).getD (i + 1) [] = ps := by rw [List.getD_eq_getElem?_getD, eps]; rfl
   have hsdi := hsd i hi
   rw [egd] at hsdi
   rw [hB]; clear hB
   walk_at "rd"
   rw [hv4, hp4]
   refine ⟨trivial, ?_⟩
   dsimp only
   refine ⟨fun j zs M5 => zs = ((List.range j).map fun c => addP (oneP ((i + 1 : Nat) : Int) ((c + 1 : Nat) : Int)) (a0K (ps.getD (c + 1) []) [(0, -1)])).map poT ∧ M5 = M', ⟨rfl, rfl⟩, ?_, by rw [a0H]; exact a0Z (by lia), ?_, ?_⟩
   ·rintro j zs M5 ⟨_, rfl⟩
    exact hp4
   ·rintro j y zs M5 hy ⟨rfl, rfl⟩
    obtain ⟨hj, rfl⟩ := a6E hy
    have e1 : atI (as.map T.adr) (1 + (i : Int)) = some (.adr a) := by
     rw [show 1 + (i : Int) = ((i + 1 : Nat) : Int) by lia]
     exact a3y (by rw [List.getElem?_map, ha]; rfl)
    have e2 : atI (ps.map poT) (1 + (j : Int)) = some (poT (ps.getD (j + 1) [])) := by
     rw [show 1 + (j : Int) = ((j + 1 : Nat) : Int) by lia]
     exact a3y (by rw [List.getElem?_map, List.getD_eq_getElem?_getD, List.getElem?_eq_getElem (by lia : j + 1 < ps.length)]; rfl)
    dsimp only [a0J]
    rw [hr4]
    dsimp only
    rw [e1]
    dsimp only
    rw [hMa]
    dsimp only
    rw [e2]
    dsimp only
    have gj := a4p g2 (i := j + 1) (by lia)
    refine a4l (q := [(0, -1)]) (b := 0) (C := 1) gj ⟨⟨by decide, by decide⟩, by unfold PwB; decide, by decide⟩ (by lia) (by lia) ?_
    refine a8i (a := ws.length + 0) ((a7P _ _).mono (by lia) (Nat.le_refl _)) (gj.mul (q := [(0, -1)]) (b := 0) (C := 1) ⟨⟨by decide, by decide⟩, by unfold PwB; decide, by decide⟩) (by lia) ?_
    refine ⟨?_, rfl⟩
    rw [List.range_succ, List.map_append, List.map_append, show 1 + (i : Int) = ((i + 1 : Nat) : Int) by lia, show 1 + (j : Int) = ((j + 1 : Nat) : Int) by lia]; rfl
   ·rintro zs M5 ⟨rfl, rfl⟩ c hc
    rw [a0H]
    generalize hrow : ((List.range m).map fun c => addP (oneP ((i + 1 : Nat) : Int) ((c + 1 : Nat) : Int)) (a0K (ps.getD (c + 1) []) [(0, -1)])) = row at hsdi ⊢
    have hSc := Sub.new hc (o := MO.lst (row.map poT))
    have hcv : c ≠ v := fun z => by rw [z, hv4] at hc; cases hc
    have h6v := hSc _ _ hv4
    have h6p := hSc _ _ hp4
    have h6r := hSc _ _ hr4
    have h6R := hR4.sub hSc
    have h6B := hB4.sub hSc
    have h6c : (updM M5 c (MO.lst (row.map poT))) c = some (.lst (row.map poT)) := a0c
    have hS6 := hS4.trans hSc
    generalize updM M5 c (MO.lst (row.map poT)) = M6 at h6v h6p h6r h6R h6B h6c hS6 ⊢
    rw [h6v]
    dsimp only
    have keepv : ∀ {xs : List Addr} {rs : List (List Po)} {o : MO}, a2n M6 xs rs → (∀ x ∈ xs, x ≠ v) → a2n (updM M6 v o) xs rs := fun {xs rs o} hx hn => ⟨hx.1, fun q a l q1 q2 => by rw [a1F (hn a (List.mem_of_getElem? q1))]; exact hx.2 q a l q1 q2⟩
    have htk : (a1Y n ws).take (i + 1) = (a1Y n ws).take i ++ [row] := by rw [List.take_add_one, hsdi]; rfl
    have hbl : bs.length = i := by rw [h6B.1, List.length_take, hlT]; lia
    refine ⟨by rw [List.length_map]; exact a0Z (by lia), ⟨bs ++ [c], _, rfl, by rw [List.map_append]; rfl, ?_, fun b hb => ?_⟩, ?_, ?_, ?_, hS6.updF hvM⟩
    ·rw [htk]
     exact (keepv h6B hbv).snoc (by rw [a1F hcv]; exact h6c)
    ·rcases List.mem_append.mp hb with z | z
     ·exact hbv b z
     ·rw [List.mem_singleton.mp z]; exact hcv
    ·rw [a1F hpv]; exact h6p
    ·rw [a1F hrv]; exact h6r
    ·exact keepv h6R hav
  ·rintro ρ M' ⟨⟨bs, x4, rfl, hv4, hB4, hbv⟩, hp4, hr4, hR4, hS4⟩
   rw [a0H] at hB4
   rw [show (a1Y n ws).take m = a1Y n ws from List.take_of_length_le (by lia)] at hB4
   rw [hK2]; clear hK2
   walk_at "rd"
   have hsd := a8w ok hsm
   rw [hm1] at hsd
   have hGl : b0M m (nD ws) (nU ws) (a1Y n ws) := hm1 ▸ a1J ok
   have hlm : (a1Y n ws).length = m := by rw [hlT, hm1]
   refine b1G (a := nD ws) (b := nU ws) hv4 hB4 (by rw [hlm]; lia) (by rw [hlm]; lia) (by rw [hlm]; exact hGl) (by rw [hlm, Nat.mul_add]; exact hsd.2) ?_
   rw [hlm]
   refine ⟨_, _, _, rfl, hsd.1, hsd.2, ?_⟩
   unfold a0s at h
   rw [hmn] at h
   exact a1j h hS4
 ·exact h.elim
noncomputable def a1D : Sp3 := fun ts M Q => match ts with
 | [.tup [.int n, .tup w]] => ∃ ws : List Int, w = ws.map .int ∧ PlOK n ws ∧ a9G n ws ∧ Q (.int (a4y (a0s n ws))) M
 | _ => False
theorem a5k {P : Program} {w : World} {K : PySem.W.Frag} {mg : Str → Option Value} {base : Heap} {f : Addr} {fd : FuncData} {n : Nat}  (F : Fun K "closed_weight" "closed_weight" a0L f fd) (hm : mg "closed_weight" = some (.ref f)) (hb : a1K K fd ["plait"] []) (Z : Zs K mg) (D_closed_sum : Df P w K mg base n "closed_sum" ["plait"] a1R) : Df P w K mg base (n + 1) "closed_weight" ["plait"] a1D := by
 refine F.dfn hm hb a5h (by intro ts M Q h; unfold a1D at h; first | (split at h <;> first | rfl | exact h.elim) | (obtain ⟨_, _, _, _, _, rfl, _⟩ := h; rfl) | (obtain ⟨_, _, _, _, rfl, _⟩ := h; rfl) | (obtain ⟨_, _, _, rfl, _⟩ := h; rfl) | (obtain ⟨_, _, rfl, _⟩ := h; rfl) | (obtain ⟨_, rfl, _⟩ := h; rfl)) ⟨_, fun cdv A outer s H E hr => (@a0l _ _ _ (@a1h _ _ _ _ (@a1f _ _ _ _ _ _ _ _ _ a2V Z.b_abs PyProof.Rows.boot_abs (@a0a _ _ _ _ _ (@a1f _ _ _ _ _ _ _ _ _ (@a9z _ rfl) Z.b_sum PyProof.Rows.boot_sum (@a0a _ _ _ _ _ (@a3v _ _ _ _ _ _ _ _ _ _ _ _ _ _ rfl (@a3K _ _ _ _ (@a0r _ _ _ _ _ _ _ _ _ _ D_closed_sum hr (@a0a _ _ _ _ _ (@hv _ 0 _ _ (by rfl) (by walk_at "3") (by decide) (by decide)) a0f (by rfl)) (by rfl) (by decide) (by rfl) (by rfl))) (@a0T _ (a0b a0L) _ ["plait"] (["power", "count"]) ([none, none]) (by decide +kernel) rfl rfl) b8X (fun _ _ _ _ _ => b6Q rfl (@a7x _ _ _ _ _ (@a1y _ _ 0 _ (show List.Nodup (["power", "count"] : List Str) by decide +kernel) rfl (Or.inl rfl) (Or.inr rfl)) (@a7x _ _ _ _ _ (@a1y _ _ 1 _ (show List.Nodup (["power", "count"] : List Str) by decide +kernel) rfl (Or.inl rfl) (Or.inr rfl)) b3A (by rfl)) (by rfl))) (fun _ _ _ _ _ => a2P) (fun _ _ _ _ _ => (@b8K _ _ _ _ _ _ _ _ (@a1W _ _ _ _ _ _ _ _ (@a6L _ hr.units) (@a0E _ _ _ _ _ _ _ _ a3r (@hv _ 0 _ _ (by rfl) (by walk_at "3") (by decide) (by decide)) a0j) a0j (@a1C _ _ (by decide) (by decide))) (@hv _ 1 _ _ (by rfl) (by walk_at "3") (by decide) (by decide)) (@h_un _ _ _ _ _ _ a4z (@hv _ 1 _ _ (by rfl) (by walk_at "3") (by decide) (by decide))))) (by intro _; rfl)) a0f (by rfl)) (by rfl) (by decide) (by decide) (by rfl) (by rfl)) a0f (by rfl)) (by rfl) (by decide) (by decide) (by rfl) (by rfl)))), fun ts M Q h => ?_⟩
 unfold a1D at h
 split at h
 ·rename_i n w
  obtain ⟨ws, rfl, ok, hsm, h⟩ := h
  walk_at "rd"
  have hlen : (a0s n ws).length < 10000 := by have := a6X ok hsm; lia
  refine ⟨ws, rfl, ok, hsm, ?_⟩
  unfold a4y at h
  generalize a0s n ws = p at h hlen ⊢
  unfold poT
  dsimp only
  refine ⟨fun i ys M' => ys = ((p.take i).map wtI).map T.int ∧ M' = M, ⟨rfl, rfl⟩, fun _ _ _ _ => trivial, by rw [List.length_map]; exact a0Z hlen, ?_, ?_⟩
  ·rintro i x ys M' hx ⟨rfl, rfl⟩
   obtain ⟨⟨y1, y2⟩, hx2, rfl⟩ : ∃ y, p[i]? = some y ∧ prT y = x := by
    rw [List.getElem?_map] at hx
    exact Option.map_eq_some_iff.mp hx
   rw [show prT (y1, y2) = T.tup [T.int y1, T.int y2] from rfl]
   dsimp only
   refine ⟨rfl, rfl, by decide, ?_⟩
   have ht := a1p wtI hx2
   have hw : wtI (y1, y2) = if y1 % 2 = 0 then y2 else -y2 := rfl
   refine ite2 (fun c => ?_) (fun c => ?_)
   ·rw [if_pos c] at hw
    refine ⟨?_, rfl⟩
    rw [← ht, List.map_append, hw]; rfl
   ·rw [if_neg c] at hw
    refine ⟨?_, rfl⟩
    rw [← ht, List.map_append, hw]; rfl
  ·rintro ys M' ⟨rfl, rfl⟩ q hq
   rw [List.length_map, List.take_length, a4o]
   exact a1j h (Sub.new hq)
 ·exact h.elim
noncomputable def a1S : Sp3 := fun ts M Q => match ts with
 | [.rd s, .int k] => ∃ ns : List Int, s = ns.map .int ∧ 0 ≤ k ∧ ∀ c, Q (.int c) M
 | _ => False
theorem a5L {P : Program} {w : World} {K : PySem.W.Frag} {mg : Str → Option Value} {base : Heap} {f : Addr} {fd : FuncData} {n : Nat}  (F : Fun K "_law_cell_at" "_law_cell_at" a1d f fd) (hm : mg "_law_cell_at" = some (.ref f)) (hb : a1K K fd ["script", "k"] []) (Z : Zs K mg)  : Df P w K mg base (n + 1) "_law_cell_at" ["script", "k"] a1S := by
 refine F.dfn hm hb a5H (by intro ts M Q h; unfold a1S at h; first | (split at h <;> first | rfl | exact h.elim) | (obtain ⟨_, _, _, _, _, rfl, _⟩ := h; rfl) | (obtain ⟨_, _, _, _, rfl, _⟩ := h; rfl) | (obtain ⟨_, _, _, rfl, _⟩ := h; rfl) | (obtain ⟨_, _, rfl, _⟩ := h; rfl) | (obtain ⟨_, rfl, _⟩ := h; rfl)) ⟨_, fun cdv A outer s H E hr => (@a0d _ _ _ _ _ (@s_if _ _ _ _ _ _ _ _ (@a1W _ _ _ _ _ _ _ _ a8L (@hv _ 1 _ _ (by rfl) (by walk_at "3") (by decide) (by decide)) (@a1f _ _ _ _ _ _ _ _ _ a2U Z.b_len PySem.boot_len (@a0a _ _ _ _ _ (@hv _ 0 _ _ (by rfl) (by walk_at "3") (by decide) (by decide)) a0f (by rfl)) (by rfl) (by decide) (by decide) (by rfl) (by rfl)) (@a1C _ _ (by decide) (by decide))) (@a0l _ _ _ (@a1h _ _ _ _ (@h_ix _ _ _ _ _ _ (@hv _ 0 _ _ (by rfl) (by walk_at "3") (by decide) (by decide)) (@hv _ 1 _ _ (by rfl) (by walk_at "3") (by decide) (by decide)) (by intro _ _; rfl)))) a2E) (@a0l _ _ _ (@a1h _ _ _ _ a0j))), fun ts M Q h => ?_⟩
 unfold a1S at h
 split at h
 ·rename_i s k
  obtain ⟨ns, rfl, h0, h⟩ := h
  walk_at "rd"
  refine ite2 (fun c => ?_) (fun c => a0B (h _))
  rw [a5z ns k h0 c]
  exact a0B (h _)
 ·exact h.elim
noncomputable def a2p : Sp3 := fun ts M Q => match ts with
 | [.rd s, .int k] => ∃ ns : List Int, s = ns.map .int ∧ 0 ≤ k ∧ ∀ p n f, M p = none → Q (.adr p) (updM M p (.lst [.int n, .bl f]))
 | _ => False
theorem a7D {P : Program} {w : World} {K : PySem.W.Frag} {mg : Str → Option Value} {base : Heap} {f : Addr} {fd : FuncData} {n : Nat}  (F : Fun K "_law_state" "_law_state" a1M f fd) (hm : mg "_law_state" = some (.ref f)) (hb : a1K K fd ["script", "k"] []) (Z : Zs K mg) (D__law_cell_at : Df P w K mg base n "_law_cell_at" ["script", "k"] a1S) : Df P w K mg base (n + 1) "_law_state" ["script", "k"] a2p := by
 refine F.dfn hm hb a4h (by intro ts M Q h; unfold a2p at h; first | (split at h <;> first | rfl | exact h.elim) | (obtain ⟨_, _, _, _, _, rfl, _⟩ := h; rfl) | (obtain ⟨_, _, _, _, rfl, _⟩ := h; rfl) | (obtain ⟨_, _, _, rfl, _⟩ := h; rfl) | (obtain ⟨_, _, rfl, _⟩ := h; rfl) | (obtain ⟨_, rfl, _⟩ := h; rfl)) ⟨_, fun cdv A outer s H E hr => (@a0d _ _ _ _ _ (@a1t _ _ _ _ 2 _ _ (@a0r _ _ _ _ _ _ _ _ _ _ D__law_cell_at hr (@a0a _ _ _ _ _ (@hv _ 0 _ _ (by rfl) (by walk_at "3") (by decide) (by decide)) (@a0a _ _ _ _ _ (@hv _ 1 _ _ (by rfl) (by walk_at "3") (by decide) (by decide)) a0f (by rfl)) (by rfl)) (by rfl) (by decide) (by rfl) (by rfl)) a4h.nd (by rfl) (by walk_at "2") (by rfl) (by walk_at "4")) (@a0d _ _ _ _ _ (@s_if _ _ _ _ _ _ _ _ (@a1W _ _ _ _ _ _ _ _ c0D (@hv _ 2 _ _ (by rfl) (by walk_at "3") (by decide) (by decide)) (@a0E _ _ _ _ _ _ _ _ b3G a0j a0j) (@a1C _ _ (by decide) (by decide))) (@a0l _ _ _ (@a1h _ _ _ _ (@b0t _ _ _ _ (@a0a _ _ _ _ _ (@a0E _ _ _ _ _ _ _ _ a3q (@hv _ 2 _ _ (by rfl) (by walk_at "3") (by decide) (by decide)) (@a0E _ _ _ _ _ _ _ _ b3G a0j a0j)) (@a0a _ _ _ _ _ h_bl a0f (by rfl)) (by rfl))))) a2E) (@a0l _ _ _ (@a1h _ _ _ _ (@b0t _ _ _ _ (@a0a _ _ _ _ _ (@a0E _ _ _ _ _ _ _ _ a3r (@hv _ 2 _ _ (by rfl) (by walk_at "3") (by decide) (by decide)) a0j) (@a0a _ _ _ _ _ h_bl a0f (by rfl)) (by rfl))))))), fun ts M Q h => ?_⟩
 unfold a2p at h
 split at h
 ·rename_i s k
  obtain ⟨ns, rfl, h0, h⟩ := h
  walk_at "rd"
  refine ⟨ns, rfl, h0, fun c => ?_⟩
  walk_at "rd"
  refine ⟨⟨by decide, by decide, by decide⟩, ?_⟩
  refine ite2 (fun _ => ⟨⟨by decide, by decide, by decide⟩, by decide, fun p hp => a0B (h _ _ _ hp)⟩) (fun _ => ⟨by decide, by decide, fun p hp => a0B (h _ _ _ hp)⟩)
 ·exact h.elim
theorem b1O {x y k : Int} (hk : 0 < k) (hk' : k ≤ 2 ^ 64) : CMul (x % k) y := by
 have h1 := Int.emod_nonneg x (Int.ne_of_gt hk)
 have h2 := Int.emod_lt_of_pos x hk
 exact .inl ⟨by lia, by lia⟩
theorem b4U {x m : Int} (h0 : 0 < m) (h1 : m < 2 ^ 100) : b9u x m := by
 refine ⟨h0, ?_⟩
 have : m.natAbs.log2 < 100 := (Nat.log2_lt (by lia)).mpr (by lia)
 lia
noncomputable def a1A : Sp3 := fun ts M Q => match ts with
 | [.adr p, .int m] => ∃ s f, M p = some (.lst [.int s, .bl f]) ∧ 0 < m ∧ m < 2 ^ 100 ∧ ∀ c s', 0 ≤ c → c < m → Q (.int c) (updM M p (.lst [.int s', .bl f]))
 | _ => False
theorem a6q {P : Program} {w : World} {K : PySem.W.Frag} {mg : Str → Option Value} {base : Heap} {f : Addr} {fd : FuncData} {n : Nat}  (F : Fun K "_law_choice" "_law_choice" a1w f fd) (hm : mg "_law_choice" = some (.ref f)) (hb : a1K K fd ["state", "many"] []) (Z : Zs K mg)  : Df P w K mg base (n + 1) "_law_choice" ["state", "many"] a1A := by
 refine F.dfn hm hb a2g (by intro ts M Q h; unfold a1A at h; first | (split at h <;> first | rfl | exact h.elim) | (obtain ⟨_, _, _, _, _, rfl, _⟩ := h; rfl) | (obtain ⟨_, _, _, _, rfl, _⟩ := h; rfl) | (obtain ⟨_, _, _, rfl, _⟩ := h; rfl) | (obtain ⟨_, _, rfl, _⟩ := h; rfl) | (obtain ⟨_, rfl, _⟩ := h; rfl)) ⟨_, fun cdv A outer s H E hr => (@a0d _ _ _ _ _ (@s_if _ _ _ _ _ _ _ _ (@a5S _ _ _ (@h_ix _ _ _ _ _ _ (@hv _ 0 _ _ (by rfl) (by walk_at "3") (by decide) (by decide)) a0j (by intro _ _; rfl)) (by intro _; rfl)) (@a0d _ _ _ _ _ (@a1t _ _ _ _ 2 _ _ (@a0E _ _ _ _ _ _ _ _ a3r (@h_ix _ _ _ _ _ _ (@hv _ 0 _ _ (by rfl) (by walk_at "3") (by decide) (by decide)) a0j (by intro _ _; rfl)) (@hv _ 1 _ _ (by rfl) (by walk_at "3") (by decide) (by decide))) a2g.nd (by rfl) (by walk_at "2") (by rfl) (by walk_at "4")) (@a0d _ _ _ _ _ (@b7I _ _ _ _ _ _ (@a0E _ _ _ _ _ _ _ _ b3I (@h_ix _ _ _ _ _ _ (@hv _ 0 _ _ (by rfl) (by walk_at "3") (by decide) (by decide)) a0j (by intro _ _; rfl)) (@hv _ 1 _ _ (by rfl) (by walk_at "3") (by decide) (by decide))) (@c0W _ _ _ _ _ _ (@hv _ 0 _ _ (by rfl) (by walk_at "3") (by decide) (by decide)) a0j (by intro _; rfl)) (by rfl) (by rfl) (by rfl)) (@a0l _ _ _ (@a1h _ _ _ _ (@hv _ 2 _ _ (by rfl) (by walk_at "3") (by decide) (by decide)))))) a2E) (@a0d _ _ _ _ _ (@b7I _ _ _ _ _ _ (@a0E _ _ _ _ _ _ _ _ a3r (@a0E _ _ _ _ _ _ _ _ a0I (@a0E _ _ _ _ _ _ _ _ a3T (@h_ix _ _ _ _ _ _ (@hv _ 0 _ _ (by rfl) (by walk_at "3") (by decide) (by decide)) a0j (by intro _ _; rfl)) a0j) a0j) a0j) (@c0W _ _ _ _ _ _ (@hv _ 0 _ _ (by rfl) (by walk_at "3") (by decide) (by decide)) a0j (by intro _; rfl)) (by rfl) (by rfl) (by rfl)) (@a0d _ _ _ _ _ (@a1t _ _ _ _ 3 _ _ (@a0E _ _ _ _ _ _ _ _ a3r (@a0E _ _ _ _ _ _ _ _ a0I (@a0E _ _ _ _ _ _ _ _ a0I (@a0E _ _ _ _ _ _ _ _ a3T (@h_ix _ _ _ _ _ _ (@hv _ 0 _ _ (by rfl) (by walk_at "3") (by decide) (by decide)) a0j (by intro _ _; rfl)) (@h_ix _ _ _ _ _ _ (@hv _ 0 _ _ (by rfl) (by walk_at "3") (by decide) (by decide)) a0j (by intro _ _; rfl))) (@a0E _ _ _ _ _ _ _ _ a3T a0j (@h_ix _ _ _ _ _ _ (@hv _ 0 _ _ (by rfl) (by walk_at "3") (by decide) (by decide)) a0j (by intro _ _; rfl)))) a0j) a0j) a2g.nd (by rfl) (by walk_at "2") (by rfl) (by walk_at "4")) (@a0d _ _ _ _ _ (@a1t _ _ _ _ 3 _ _ (@a0E _ _ _ _ _ _ _ _ a3r (@a0E _ _ _ _ _ _ _ _ a0I (@a0E _ _ _ _ _ _ _ _ a3T (@hv _ 3 _ _ (by rfl) (by walk_at "3") (by decide) (by decide)) (@hv _ 3 _ _ (by rfl) (by walk_at "3") (by decide) (by decide))) (@a0E _ _ _ _ _ _ _ _ a3T a0j (@hv _ 3 _ _ (by rfl) (by walk_at "3") (by decide) (by decide)))) a0j) a2g.nd (by rfl) (by walk_at "2") (by rfl) (by walk_at "4")) (@a0l _ _ _ (@a1h _ _ _ _ (@a0E _ _ _ _ _ _ _ _ a3r (@a0E _ _ _ _ _ _ _ _ b3I (@hv _ 3 _ _ (by rfl) (by walk_at "3") (by decide) (by decide)) a0j) (@hv _ 1 _ _ (by rfl) (by walk_at "3") (by decide) (by decide))))))))), fun ts M Q h => ?_⟩
 unfold a1A at h
 split at h
 ·rename_i p m
  obtain ⟨s, f, hM, h0, h1, h⟩ := h
  refine a0C fun K1 hK1 => ?_
  have hk : K1 [some (.adr p), some (.int m), none, none] M := by
   rw [hK1]
   clear hK1
   refine a0C fun K2 hK2 => ?_
   walk_at "rd"
   simp only [hM]
   walk_at "rd"
   refine ⟨.inr ⟨by decide, by decide⟩, by decide, ?_⟩
   have hM2 : updM M p (.lst [.int ((s * 48271 + 29) % 2147483647), .bl f]) p = some (.lst [.int ((s * 48271 + 29) % 2147483647), .bl f]) := a0c
   have b0 : CMul ((s * 48271 + 29) % 2147483647) ((s * 48271 + 29) % 2147483647) := b1O (by decide) (by decide)
   generalize (s * 48271 + 29) % 2147483647 = s1 at hM2 b0 ⊢
   rw [hK2]
   clear hK2
   refine a0C fun K3 hK3 => ?_
   walk_at "rd"
   refine ⟨b0, .inl ⟨by decide, by decide⟩, by decide, ?_⟩
   have b1 : ∀ y, CMul ((s1 * s1 + 39373 * s1 + 7) % 2147483629) y := fun y => b1O (by decide) (by decide)
   generalize (s1 * s1 + 39373 * s1 + 7) % 2147483629 = mx at b1 ⊢
   rw [hK3]
   clear hK3
   walk_at "rd"
   refine ⟨b1 _, .inl ⟨by decide, by decide⟩, by decide, b4U (by decide) (by decide), h0, ?_⟩
   have hh := h (((mx * mx + 16807 * mx) % 2147483587) / 8 % m) s1 (Int.emod_nonneg _ (Int.ne_of_gt h0)) (Int.emod_lt_of_pos _ h0)
   refine a1j hh ?_
   exact Sub.refl
  walk_at "rd"
  simp only [hM]
  walk_at "rd"
  exact ite2 (fun c => ⟨h0, b4U h0 h1, a0B (h _ _ (Int.emod_nonneg _ (Int.ne_of_gt h0)) (Int.emod_lt_of_pos _ h0))⟩) (fun c => hk)
 ·exact h.elim
noncomputable def a2I : Sp3 := fun ts M Q => match ts with
 | [.adr p, .int n, .int c] => ∃ s f, M p = some (.lst [.int s, .bl f]) ∧ n < 2 ^ 60 ∧ 0 ≤ c ∧ c ≤ 1000 ∧ ∀ (w : List Int) s', WordOK n w → (w.length : Int) ≤ c → (2 ≤ n → (w.length : Int) = c) → Q (.tup (w.map .int)) (updM M p (.lst [.int s', .bl f]))
 | _ => False
theorem a8P {P : Program} {w : World} {K : PySem.W.Frag} {mg : Str → Option Value} {base : Heap} {f : Addr} {fd : FuncData} {n : Nat}  (F : Fun K "_law_word" "_law_word" a1H f fd) (hm : mg "_law_word" = some (.ref f)) (hb : a1K K fd ["state", "strands", "count"] []) (Z : Zs K mg) (D__law_choice : Df P w K mg base n "_law_choice" ["state", "many"] a1A) : Df P w K mg base (n + 1) "_law_word" ["state", "strands", "count"] a2I := by
 refine F.dfn hm hb a8B (by intro ts M Q h; unfold a2I at h; first | (split at h <;> first | rfl | exact h.elim) | (obtain ⟨_, _, _, _, _, rfl, _⟩ := h; rfl) | (obtain ⟨_, _, _, _, rfl, _⟩ := h; rfl) | (obtain ⟨_, _, _, rfl, _⟩ := h; rfl) | (obtain ⟨_, _, rfl, _⟩ := h; rfl) | (obtain ⟨_, rfl, _⟩ := h; rfl)) ⟨_, fun cdv A outer s H E hr => (@a0d _ _ _ _ _ (@s_if _ _ _ _ _ _ _ _ (@a1W _ _ _ _ _ _ _ _ a8L (@hv _ 1 _ _ (by rfl) (by walk_at "3") (by decide) (by decide)) a0j (@a1C _ _ (by decide) (by decide))) (@a0l _ _ _ (@a1h _ _ _ _ (@a7N _ _ _ _ _ a0f))) a2E) (@a0l _ _ _ (@a1h _ _ _ _ (@a4Q _ _ _ _ _ _ _ _ _ a4c Z.b_tuple PyProof.Rows.boot_tuple (@a0a _ _ _ _ _ (@a3v _ _ _ _ _ _ _ _ _ _ _ _ _ _ rfl (@a5v _ _ _ _ _ _ Z.b_range (@a0a _ _ _ _ _ (@hv _ 2 _ _ (by rfl) (by walk_at "3") (by decide) (by decide)) a0f (by rfl)) (by rfl) (by rfl)) (@a0T _ (a0b a1H) _ (["state", "strands", "count"]) (["k", "state", "strands"]) ([none, some 0, some 1]) (by decide +kernel) rfl rfl) a2c (fun _ _ _ _ _ => @a1y _ _ 0 _ (show List.Nodup (["k", "state", "strands"] : List Str) by decide +kernel) rfl (Or.inl rfl) (Or.inr rfl)) (fun _ _ _ _ _ => a2P) (fun _ _ _ _ _ => (@a0E _ _ _ _ _ _ _ _ a3T (@h_ix _ _ _ _ _ _ (@b0t _ _ _ _ (@a0a _ _ _ _ _ a0j (@a0a _ _ _ _ _ (@h_un _ _ _ _ _ _ a4z a0j) a0f (by rfl)) (by rfl))) (@a0r _ _ _ _ _ _ _ _ _ _ D__law_choice hr (@a0a _ _ _ _ _ (@hv _ 1 _ _ (by rfl) (by walk_at "3") (by decide) (by decide)) (@a0a _ _ _ _ _ a0j a0f (by rfl)) (by rfl)) (by rfl) (by decide) (by rfl) (by rfl)) (by intro _ _; rfl)) (@a0E _ _ _ _ _ _ _ _ a0I a0j (@a0r _ _ _ _ _ _ _ _ _ _ D__law_choice hr (@a0a _ _ _ _ _ (@hv _ 1 _ _ (by rfl) (by walk_at "3") (by decide) (by decide)) (@a0a _ _ _ _ _ (@a0E _ _ _ _ _ _ _ _ a3q (@hv _ 2 _ _ (by rfl) (by walk_at "3") (by decide) (by decide)) a0j) a0f (by rfl)) (by rfl)) (by rfl) (by decide) (by rfl) (by rfl))))) (by intro _; rfl)) a0f (by rfl)) (by rfl) (by decide) (by decide) (by rfl) (by rfl))))), fun ts M Q h => ?_⟩
 unfold a2I at h
 split at h
 ·rename_i p n c
  obtain ⟨s, f, hM, hn, h0, h1, h⟩ := h
  walk_at "rd"
  refine ite2 (fun hc => ?_) (fun hc => ⟨by lia, by lia, ?_⟩)
  ·have := h [] s (fun _ z => nomatch z) (by simpa using h0) (by lia)
   rw [a8p hM] at this
   exact a0B this
  ·refine ⟨fun i ys M' => ∃ w s', ys = w.map T.int ∧ w.length = i ∧ WordOK n w ∧ Sub (updM M p (.lst [.int s', .bl f])) M', ⟨[], s, rfl, rfl, (fun _ z => nomatch z), by rw [a8p hM]; exact Sub.refl⟩, fun _ _ _ _ => trivial, ?_, ?_, ?_⟩
   ·unfold a0w; rw [List.length_map, List.length_range]; exact Nat.lt_of_le_of_lt (by lia : c.toNat ≤ 1000) (by decide)
   ·rintro i x ys M' hx ⟨w, s', rfl, rfl, hw, hS⟩
    walk_at "rd"
    refine ⟨by decide, fun r hr => ?_⟩
    have hM' := hS p _ a0c
    have hpr : p ≠ r := b8w hM' hr
    refine ⟨s', f, by rw [a1F hpr, hM'], by decide, by decide, fun c1 s1 hc0 hc1 => ?_⟩
    simp only [a1F hpr.symm, a0c]
    have hcc : c1 = 0 ∨ c1 = 1 := by lia
    have fin : ∀ g : Int, (g = 1 ∨ g = -1) → ∀ c2 s2 : Int, 0 ≤ c2 → c2 < n - 1 → CMul g (1 + c2) ∧ ∃ w' s'', List.map T.int w ++ [T.int (g * (1 + c2))] = List.map T.int w' ∧ w'.length = w.length + 1 ∧ WordOK n w' ∧
      Sub (updM M p (.lst [.int s'', .bl f])) (updM (updM M' r (.lst [.int 1, .int (-1)])) p (.lst [.int s2, .bl f])) := by
     intro g hg c2 s2 h20 h21
     refine ⟨.inl ⟨by lia, by lia⟩, w ++ [g * (1 + c2)], s2, by simp, by simp, fun l hl => ?_, (hS.newr hr).set⟩
     rcases List.mem_append.mp hl with z | z
     ·exact hw l z
     ·have e : l = g * (1 + c2) := by simpa using z
      subst e
      unfold LetOK
      rcases hg with rfl | rfl
      ·rw [Int.one_mul]; lia
      ·rw [Int.neg_one_mul]; lia
    rcases hcc with rfl | rfl
    ·walk_at "rd"
     exact ⟨s1, f, a0c, by lia, by lia, fun c2 s2 h20 h21 => by walk_at "rd"; exact fin 1 (.inl rfl) c2 s2 h20 h21⟩
    ·walk_at "rd"
     exact ⟨s1, f, a0c, by lia, by lia, fun c2 s2 h20 h21 => by walk_at "rd"; exact fin (-1) (.inr rfl) c2 s2 h20 h21⟩
   ·rintro ys M' ⟨w, s', rfl, hl, hw, hS⟩ q hq
    have hlen : (w.length : Int) = c := by
     rw [hl]; unfold a0w; rw [List.length_map, List.length_range]; lia
    exact a1j (h w s' hw (by lia) (fun _ => hlen)) (hS.newr hq)
 ·exact h.elim
noncomputable def a2q : Sp3 := fun ts M Q => match ts with
 | [.adr p, .int a, .int b, .int c] => ∃ s f, M p = some (.lst [.int s, .bl f]) ∧ a ≤ b ∧ 0 ≤ a ∧ b ≤ 1000 ∧ 0 ≤ c ∧ c < 1000 ∧ ∀ (n : Int) (w : List Int) s', a ≤ n → n ≤ b → WordOK n w → (w.length : Int) ≤ c → Q (.tup [.int n, .tup (w.map .int)]) (updM M p (.lst [.int s', .bl f]))
 | _ => False
theorem a7E {P : Program} {w : World} {K : PySem.W.Frag} {mg : Str → Option Value} {base : Heap} {f : Addr} {fd : FuncData} {n : Nat}  (F : Fun K "_law_plait" "_law_plait" a1N f fd) (hm : mg "_law_plait" = some (.ref f)) (hb : a1K K fd ["state", "least", "most", "letters"] []) (Z : Zs K mg) (D__law_choice : Df P w K mg base n "_law_choice" ["state", "many"] a1A) (D__law_word : Df P w K mg base n "_law_word" ["state", "strands", "count"] a2I) : Df P w K mg base (n + 1) "_law_plait" ["state", "least", "most", "letters"] a2q := by
 refine F.dfn hm hb a4i (by intro ts M Q h; unfold a2q at h; first | (split at h <;> first | rfl | exact h.elim) | (obtain ⟨_, _, _, _, _, rfl, _⟩ := h; rfl) | (obtain ⟨_, _, _, _, rfl, _⟩ := h; rfl) | (obtain ⟨_, _, _, rfl, _⟩ := h; rfl) | (obtain ⟨_, _, rfl, _⟩ := h; rfl) | (obtain ⟨_, rfl, _⟩ := h; rfl)) ⟨_, fun cdv A outer s H E hr => (@a0d _ _ _ _ _ (@a1t _ _ _ _ 4 _ _ (@a0E _ _ _ _ _ _ _ _ a0I (@hv _ 1 _ _ (by rfl) (by walk_at "3") (by decide) (by decide)) (@a0r _ _ _ _ _ _ _ _ _ _ D__law_choice hr (@a0a _ _ _ _ _ (@hv _ 0 _ _ (by rfl) (by walk_at "3") (by decide) (by decide)) (@a0a _ _ _ _ _ (@a0E _ _ _ _ _ _ _ _ a0I (@a0E _ _ _ _ _ _ _ _ a3q (@hv _ 2 _ _ (by rfl) (by walk_at "3") (by decide) (by decide)) (@hv _ 1 _ _ (by rfl) (by walk_at "3") (by decide) (by decide))) a0j) a0f (by rfl)) (by rfl)) (by rfl) (by decide) (by rfl) (by rfl))) a4i.nd (by rfl) (by walk_at "2") (by rfl) (by walk_at "4")) (@a0l _ _ _ (@a1h _ _ _ _ (@a7N _ _ _ _ _ (@a0a _ _ _ _ _ (@hv _ 4 _ _ (by rfl) (by walk_at "3") (by decide) (by decide)) (@a0a _ _ _ _ _ (@a0r _ _ _ _ _ _ _ _ _ _ D__law_word hr (@a0a _ _ _ _ _ (@hv _ 0 _ _ (by rfl) (by walk_at "3") (by decide) (by decide)) (@a0a _ _ _ _ _ (@hv _ 4 _ _ (by rfl) (by walk_at "3") (by decide) (by decide)) (@a0a _ _ _ _ _ (@a0r _ _ _ _ _ _ _ _ _ _ D__law_choice hr (@a0a _ _ _ _ _ (@hv _ 0 _ _ (by rfl) (by walk_at "3") (by decide) (by decide)) (@a0a _ _ _ _ _ (@a0E _ _ _ _ _ _ _ _ a0I (@hv _ 3 _ _ (by rfl) (by walk_at "3") (by decide) (by decide)) a0j) a0f (by rfl)) (by rfl)) (by rfl) (by decide) (by rfl) (by rfl)) a0f (by rfl)) (by rfl)) (by rfl)) (by rfl) (by decide) (by rfl) (by rfl)) a0f (by rfl)) (by rfl)))))), fun ts M Q h => ?_⟩
 unfold a2q at h
 split at h
 ·rename_i p a b c
  obtain ⟨s, f, hM, h1, h2, h3, h4, h5, h⟩ := h
  walk_at "rd"
  refine ⟨s, f, hM, by lia, by lia, fun c1 s1 h10 h11 => ?_⟩
  walk_at "rd"
  refine ⟨s1, f, a0c, by lia, by lia, fun c2 s2 h20 h21 => ?_⟩
  walk_at "rd"
  refine ⟨s2, f, by simp only [a0c], by lia, by lia, by lia, fun w s3 hw hl _ => ?_⟩
  walk_at "rd"
  exact ⟨by decide, a0B (h _ _ _ (by lia) (by lia) hw (by lia))⟩
 ·exact h.elim
noncomputable def a2f : Sp3 := fun ts M Q => match ts with
 | [.tup o] => ∃ (os : List Int) (n : Int), o = os.map .int ∧ 1 ≤ n ∧ n ≤ 6 ∧ IsP n os ∧ ∀ M', Sub M M' → Q (.int (cycN os : Nat)) M'
 | _ => False
theorem b2U {c : TT3} {b : TS3} {D : Ends3} {ρ : En} {M : MH} (h : ∀ B : TS3, B = b → a7h c B D ρ M) : a7h c b D ρ M := h _ rfl
theorem b6U {n : Int} {os : List Int} (h : IsP n os) {a : Int} (ha : InM n a) : atI (os.map T.int) a = some (.int (gI os a)) ∧ InM n (gI os a) :=
 ⟨c2d ha.1 (by rw [h.length_eq, a0e]; have := ha.2; lia), (c2c h ha).1⟩
theorem a5i {α : Type} (f : α → Int → α) (z : α) {n : Int} {i : Nat} (h : i < n.toNat) : ((a0g n).take (i + 1)).foldl f z = f (((a0g n).take i).foldl f z) (i : Int) := by
 have e : (a0g n)[i]? = some (i : Int) := by unfold a0g; rw [List.getElem?_map, List.getElem?_range h]; rfl
 rw [List.take_add_one, e, List.foldl_append]; rfl
theorem a7V : ∀ l : List Int, (l.map T.int).all flT = true
 | [] => rfl
 | x :: l => a7V l
theorem a7M (x : Int) : ∀ l : List Int, inT (T.int x) (l.map T.int) = decide (x ∈ l)
 | [] => by rw [decide_eq_false List.not_mem_nil]; rfl
 | y :: l => by
   have := a7M x l
   unfold inT at this ⊢
   rw [List.map_cons, List.any_cons, this, a5V]
   by_cases c : y = x
   ·subst c
    rw [decide_eq_true rfl, decide_eq_true (List.mem_cons_self)]; rfl
   ·rw [decide_eq_false c, Bool.false_or]
    by_cases d : x ∈ l
    ·rw [decide_eq_true d, decide_eq_true (List.mem_cons_of_mem _ d)]
    ·rw [decide_eq_false d, decide_eq_false fun z => by
      rcases List.mem_cons.mp z with e | e
      ·exact c e.symm
      ·exact d e]
theorem a6p {P : Program} {w : World} {K : PySem.W.Frag} {mg : Str → Option Value} {base : Heap} {f : Addr} {fd : FuncData} {n : Nat}  (F : Fun K "_law_pieces" "_law_pieces" a1v f fd) (hm : mg "_law_pieces" = some (.ref f)) (hb : a1K K fd ["places"] []) (Z : Zs K mg)  : Df P w K mg base (n + 1) "_law_pieces" ["places"] a2f := by
 refine F.dfn hm hb a0V (by intro ts M Q h; unfold a2f at h; first | (split at h <;> first | rfl | exact h.elim) | (obtain ⟨_, _, _, _, _, rfl, _⟩ := h; rfl) | (obtain ⟨_, _, _, _, rfl, _⟩ := h; rfl) | (obtain ⟨_, _, _, rfl, _⟩ := h; rfl) | (obtain ⟨_, _, rfl, _⟩ := h; rfl) | (obtain ⟨_, rfl, _⟩ := h; rfl)) ⟨_, fun cdv A outer s H E hr => (@a0d _ _ _ _ _ (@a1t _ _ _ _ 1 _ _ (@b0t _ _ _ _ a0f) a0V.nd (by rfl) (by walk_at "2") (by rfl) (by walk_at "4")) (@a0d _ _ _ _ _ (@a1t _ _ _ _ 2 _ _ a0j a0V.nd (by rfl) (by walk_at "2") (by rfl) (by walk_at "4")) (@a0d _ _ _ _ _ (@a8C _ _ _ _ _ _ _ _ PassesOwn.never rfl (@a5v _ _ _ _ _ _ Z.b_range (@a0a _ _ _ _ _ (@a1f _ _ _ _ _ _ _ _ _ a2U Z.b_len PySem.boot_len (@a0a _ _ _ _ _ (@hv _ 0 _ _ (by rfl) (by walk_at "3") (by decide) (by decide)) a0f (by rfl)) (by rfl) (by decide) (by decide) (by rfl) (by rfl)) a0f (by rfl)) (by rfl) (by rfl)) (@a2J _ _ 3 _ a0V.nd (by rfl) (by walk_at "2") (by walk_at "4")) (@a0l _ _ _ (@s_if _ _ _ _ _ _ _ _ (@a1W _ _ _ _ _ _ _ _ a8K (@hv _ 3 _ _ (by rfl) (by walk_at "3") (by decide) (by decide)) (@hv _ 1 _ _ (by rfl) (by walk_at "3") (by decide) (by decide)) rfl) (@a0d _ _ _ _ _ (@a1t _ _ _ _ 2 _ _ (@a0E _ _ _ _ _ _ _ _ a0I (@hv _ 2 _ _ (by rfl) (by walk_at "3") (by decide) (by decide)) a0j) a0V.nd (by rfl) (by walk_at "2") (by rfl) (by walk_at "4")) (@a0d _ _ _ _ _ (@a1t _ _ _ _ 4 _ _ (@hv _ 3 _ _ (by rfl) (by walk_at "3") (by decide) (by decide)) a0V.nd (by rfl) (by walk_at "2") (by rfl) (by walk_at "4")) (@a0l _ _ _ (@b7G _ _ _ _ _ _ PassesOwn.never (@a1W _ _ _ _ _ _ _ _ a8K (@hv _ 4 _ _ (by rfl) (by walk_at "3") (by decide) (by decide)) (@hv _ 1 _ _ (by rfl) (by walk_at "3") (by decide) (by decide)) rfl) (@a0d _ _ _ _ _ (@b0X _ _ _ _ (@a6R _ _ _ _ _ _ _ _ (@hv _ 1 _ _ (by rfl) (by walk_at "3") (by decide) (by decide)) (@a0a _ _ _ _ _ (@hv _ 4 _ _ (by rfl) (by walk_at "3") (by decide) (by decide)) a0f (by rfl)) (by rfl) (by rfl) (by rfl) (by rfl) (by rfl)) (by rfl)) (@a0l _ _ _ (@a1t _ _ _ _ 4 _ _ (@h_ix _ _ _ _ _ _ (@hv _ 0 _ _ (by rfl) (by walk_at "3") (by decide) (by decide)) (@hv _ 4 _ _ (by rfl) (by walk_at "3") (by decide) (by decide)) (by intro _ _; rfl)) a0V.nd (by rfl) (by walk_at "2") (by rfl) (by walk_at "4")))))))) a2E)) (by intro _; rfl)) (@a0l _ _ _ (@a1h _ _ _ _ (@hv _ 2 _ _ (by rfl) (by walk_at "3") (by decide) (by decide))))))), fun ts M Q h => ?_⟩
 unfold a2f at h
 split at h
 ·rename_i o
  obtain ⟨os, n, rfl, n1, n6, ho, h⟩ := h
  have hol : os.length = n.toNat := ho.len
  refine b5t fun K1 hK1 => ?_
  walk_at "rd"
  intro p hp
  have hMp : (updM M p (MO.lst [])) p = some (.lst (([] : List Int).map .int)) := a0c
  have hS := Sub.new hp (o := MO.lst [])
  generalize updM M p (MO.lst []) = M1 at hMp hS ⊢
  rw [hK1]; clear hK1
  refine a0C fun K2 hK2 => ?_
  refine a3W fun B hB => ?_
  unfold a6l
  walk_at "rd"
  refine ⟨by lia, by lia, fun i ρ M' => (∃ x3 x4, ρ = [some (T.tup (os.map T.int)), some (T.adr p), some (T.int ((((a0g n).take i).foldl (a6m os) ([], 0)).2 : Nat)), x3, x4]) ∧ M' p = some (.lst ((((a0g n).take i).foldl (a6m os) ([], 0)).1.map .int)) ∧ (((a0g n).take i).foldl (a6m os) ([], 0)).1.Nodup ∧ (∀ x ∈ (((a0g n).take i).foldl (a6m os) ([], 0)).1, InM n x) ∧ Sub M M', ⟨⟨_, _, rfl⟩, hMp, .nil, fun _ z => absurd z List.not_mem_nil, hS⟩, fun _ _ _ _ => trivial, ?_, ?_⟩
  ·rintro i x ρ M' hx ⟨⟨x3, x4, rfl⟩, hMp, hnd, hin, hS⟩
   obtain ⟨hi, rfl⟩ := a5I hx
   have hi2 : i < n.toNat := by lia
   have hbm : InM n (i : Int) := ⟨by lia, by lia⟩
   have hst := a5i (a6m os) ([], 0) hi2
   generalize ((a0g n).take i).foldl (a6m os) ([], 0) = st at hMp hnd hin hst
   obtain ⟨seen, many⟩ := st
   dsimp only at hMp hnd hin
   rw [hB]; clear hB
   walk_at "rd"
   rw [hMp]
   dsimp only
   refine ⟨rfl, a7V _, ?_⟩
   rw [a7M]
   refine ite2 (fun c => ?_) (fun c => ?_)
   ·have hni : (i : Int) ∉ seen := of_decide_eq_false c
    have e : a6m os (seen, many) (i : Int) = (a8m os 7 i seen, many + 1) := if_neg hni
    rw [e] at hst
    have hlen : ∀ {s : List Int}, s.Nodup → (∀ x ∈ s, InM n x) → s.length ≤ 6 := fun h1 h2 => by
     have := List.Nodup.length_le_of_subset h1 (fun x hx => a6G.mpr (h2 x hx) : ∀ x ∈ _, x ∈ a0g n)
     rw [a0e] at this
     lia
    refine b2U fun C hC => ?_
    unfold a7h
    refine ⟨fun m ρ M2 => ∃ (here : Int) (s : List Int), ρ = [some (T.tup (os.map T.int)), some (T.adr p), some (T.int ((many : Int) + 1)), some (T.int i), some (T.int here)] ∧ InM n here ∧ a8m os m here s = a8m os 7 i seen ∧ 7 ≤ m + s.length ∧ M2 p = some (.lst (s.map .int)) ∧ s.Nodup ∧ (∀ x ∈ s, InM n x) ∧ Sub M M2, ⟨7, i, seen, rfl, hbm, rfl, by lia, hMp, hnd, hin, hS⟩, ?_⟩
    rintro m ρ M2 ⟨here, s, rfl, hh, hw, hms, hp2, hnd2, hin2, hS2⟩
    walk_at "rd"
    rw [hp2]
    dsimp only
    refine ⟨rfl, a7V _, ?_⟩
    rw [a7M]
    have hl6 := hlen hnd2 hin2
    refine ite2 (fun c2 => ?_) (fun c2 => ?_)
    ·have hns : here ∉ s := of_decide_eq_false c2
     cases m with
     | zero => lia
     | succ f =>
       have hw2 : a8m os (f + 1) here s = a8m os f (gI os here) (s ++ [here]) := if_neg hns
       rw [hw2] at hw
       rw [hC]
       walk_at "rd"
       rw [hp2]
       dsimp only
       rw [(b6U ho hh).1]
       dsimp only
       refine ⟨trivial, a0Z (by rw [List.length_map]; lia), f, Nat.lt_succ_self _, gI os here, s ++ [here], rfl, (b6U ho hh).2, hw, by rw [List.length_append, List.length_singleton]; lia, by rw [List.map_append]; rfl, ?_, fun x hx => ?_, hS2.updF hp⟩
       ·exact List.nodup_append.mpr ⟨hnd2, List.pairwise_singleton _ _, fun a ha b hb e => by rw [List.mem_singleton.mp hb] at e; exact hns (by rw [← e]; exact ha)⟩
       ·rcases List.mem_append.mp hx with z | z
        ·exact hin2 x z
        ·rw [List.mem_singleton.mp z]; exact hh
    ·have hhs : here ∈ s := by
      rcases Classical.em (here ∈ s) with z | z
      ·exact z
      ·exact absurd (decide_eq_false z) c2
     have hw2 : a8m os m here s = s := by
      cases m with
      | zero => rfl
      | succ f => exact if_pos hhs
     rw [hw2] at hw
     rw [hst, ← hw]
     exact ⟨⟨_, _, rfl⟩, rfl, hnd2, hin2, hS2⟩
   ·have hni : (i : Int) ∈ seen := by
     rcases Classical.em ((i : Int) ∈ seen) with z | z
     ·exact z
     ·exact absurd (decide_eq_false z) c
    have e : a6m os (seen, many) (i : Int) = (seen, many) := if_pos hni
    rw [e] at hst
    rw [hst]
    exact ⟨⟨_, _, rfl⟩, rfl, hnd, hin, hS⟩
  ·rintro ρ M' ⟨⟨x3, x4, rfl⟩, hMp, hnd, hin, hS⟩
   rw [hK2]
   walk_at "rd"
   rw [a0H, show ((os.length : Nat) : Int).toNat = (a0g n).length by rw [a0e, hol]; lia, List.take_length]
   have e : cycN os = ((a0g n).foldl (a6m os) ([], 0)).2 := by
    unfold cycN
    rw [show ((os.length : Nat) : Int) = n by lia]
   have := h M' hS
   rw [e] at this
   exact a1j this Sub.refl
 ·exact h.elim
theorem b5X (P : Po) : a7L (dkI P) = (P.map Prod.fst).map T.int := by
 unfold a7L dkI
 rw [List.map_map, List.map_map]; rfl
theorem b9W {P : Po} (h : CanP P) : ((P.map Prod.fst).map (co P)).sum = evP g1 P := by
 rw [b4v, List.map_map]
 congr 1
 exact List.map_congr_left fun x hx => a2z h.1 hx
noncomputable def a6C : Sp3 := fun ts M Q => match ts with
 | [.rd s] => ∃ ns : List Int, s = ns.map .int ∧ Q (.bl true) M
 | _ => False
theorem b2z (ns : List Int) (M : MH) (Q : VK3) (_ : ns.length ≤ 63) (h : Q (.bl true) M) : a6C [.rd (ns.map .int)] M Q := ⟨ns, rfl, h⟩
theorem c0E {P : Program} {w : World} {K : PySem.W.Frag} {mg : Str → Option Value} {base : Heap} {f : Addr} {fd : FuncData} {n : Nat}  (F : Fun K "law" "law" a4I f fd) (Z : Zs K mg) (D__law_plait : Df P w K mg base n "_law_plait" ["state", "least", "most", "letters"] a2q) (D__law_state : Df P w K mg base n "_law_state" ["script", "k"] a2p) (D_closed_sum : Df P w K mg base n "closed_sum" ["plait"] a1R) (D__law_pieces : Df P w K mg base n "_law_pieces" ["places"] a2f) (D_order_of : Df P w K mg base n "order_of" ["plait"] a2Y) (D_closed_weight : Df P w K mg base n "closed_weight" ["plait"] a1D) : FnOk P w K mg base CX0 (n + 1) f fd ["script"] (dSp K a6C) := by
 refine F.fnk a5G (by intro ts M Q h; unfold a6C at h; first | (split at h <;> first | rfl | exact h.elim) | (obtain ⟨_, _, _, _, _, rfl, _⟩ := h; rfl) | (obtain ⟨_, _, _, _, rfl, _⟩ := h; rfl) | (obtain ⟨_, _, _, rfl, _⟩ := h; rfl) | (obtain ⟨_, _, rfl, _⟩ := h; rfl) | (obtain ⟨_, rfl, _⟩ := h; rfl)) ⟨_, fun cdv A outer s H E hr => (@a0d _ _ _ _ _ (@b7I _ _ _ _ _ _ (@a0r _ _ _ _ _ _ _ _ _ _ D__law_plait hr (@a0a _ _ _ _ _ (@a0r _ _ _ _ _ _ _ _ _ _ D__law_state hr (@a0a _ _ _ _ _ (@hv _ 0 _ _ (by rfl) (by walk_at "3") (by decide) (by decide)) (@a0a _ _ _ _ _ a0j a0f (by rfl)) (by rfl)) (by rfl) (by decide) (by rfl) (by rfl)) (@a0a _ _ _ _ _ a0j (@a0a _ _ _ _ _ a0j (@a0a _ _ _ _ _ a0j a0f (by rfl)) (by rfl)) (by rfl)) (by rfl)) (by rfl) (by decide) (by rfl) (by rfl)) (@b4m _ _ _ _ _ 2 rfl (@a2M _ _ _ _ _ (@a2J _ _ 1 _ a5G.nd (by rfl) (by walk_at "2") (by walk_at "4")) (@a2M _ _ _ _ _ (@a2J _ _ 2 _ a5G.nd (by rfl) (by walk_at "2") (by walk_at "4")) a9d (by rfl)) (by rfl)) (by rfl) (by rfl)) (by rfl) (by rfl) (by rfl)) (@a0d _ _ _ _ _ (@a1t _ _ _ _ 3 _ _ (@h_wk _ _ _ (@a4Q _ _ _ _ _ _ _ _ _ (@a6d _ rfl) Z.b_dict PyProof.Rows.boot_dict (@a0a _ _ _ _ _ (@a0r _ _ _ _ _ _ _ _ _ _ D_closed_sum hr (@a6h _ _ _ _ _ _ _ (@a7N _ _ _ _ _ (@a0a _ _ _ _ _ (@hv _ 1 _ _ (by rfl) (by walk_at "3") (by decide) (by decide)) (@a0a _ _ _ _ _ (@hv _ 2 _ _ (by rfl) (by walk_at "3") (by decide) (by decide)) a0f (by rfl)) (by rfl))) a0f) (by rfl) (by decide) (by rfl) (by rfl)) a0f (by rfl)) (by rfl) (by decide) (by decide) (by rfl) (by rfl))) a5G.nd (by rfl) (by walk_at "2") (by rfl) (by walk_at "4")) (@a0d _ _ _ _ _ (@a1t _ _ _ _ 4 _ _ (@b6i _ _ _ _ _ _ _ _ (@a6L _ hr.units) (@a0r _ _ _ _ _ _ _ _ _ _ D__law_pieces hr (@a0a _ _ _ _ _ (@a0r _ _ _ _ _ _ _ _ _ _ D_order_of hr (@a6h _ _ _ _ _ _ _ (@a7N _ _ _ _ _ (@a0a _ _ _ _ _ (@hv _ 1 _ _ (by rfl) (by walk_at "3") (by decide) (by decide)) (@a0a _ _ _ _ _ (@hv _ 2 _ _ (by rfl) (by walk_at "3") (by decide) (by decide)) a0f (by rfl)) (by rfl))) a0f) (by rfl) (by decide) (by rfl) (by rfl)) a0f (by rfl)) (by rfl) (by decide) (by rfl) (by rfl)) a0j (@a1C _ _ (by decide) (by decide))) a5G.nd (by rfl) (by walk_at "2") (by rfl) (by walk_at "4")) (@a0d _ _ _ _ _ (@s_if _ _ _ _ _ _ _ _ (@HW.ht _ _ _ (@w_or _ _ _ _ _ _ _ (@a1W _ _ _ _ _ _ _ _ (@b1h _ hr.units) (@b6i _ _ _ _ _ _ _ _ (@a6L _ hr.units) (@a0E _ _ _ _ _ _ _ _ a3r (@a0r _ _ _ _ _ _ _ _ _ _ D_closed_weight hr (@a6h _ _ _ _ _ _ _ (@a7N _ _ _ _ _ (@a0a _ _ _ _ _ (@hv _ 1 _ _ (by rfl) (by walk_at "3") (by decide) (by decide)) (@a0a _ _ _ _ _ (@hv _ 2 _ _ (by rfl) (by walk_at "3") (by decide) (by decide)) a0f (by rfl)) (by rfl))) a0f) (by rfl) (by decide) (by rfl) (by rfl)) a0j) a0j (@a1C _ _ (by decide) (by decide))) (@hv _ 4 _ _ (by rfl) (by walk_at "3") (by decide) (by decide)) (@a1C _ _ (by decide) (by decide))) (@b7r _ _ _ _ (@a1W _ _ _ _ _ _ _ _ (@b1h _ hr.units) (@a1f _ _ _ _ _ _ _ _ _ a2V Z.b_abs PyProof.Rows.boot_abs (@a0a _ _ _ _ _ (@a1f _ _ _ _ _ _ _ _ _ (@a9z _ rfl) Z.b_sum PyProof.Rows.boot_sum (@a0a _ _ _ _ _ (@a3v _ _ _ _ _ _ _ _ _ _ _ _ _ _ rfl (@b8H _ _ _ _ (@hv _ 3 _ _ (by rfl) (by walk_at "3") (by decide) (by decide))) (@a0T _ (a0b a4I) _ (["script", "strands", "word", "total", "one", "top", "counts"]) (["power", "total"]) ([none, some 3]) (by decide +kernel) rfl rfl) a2c (fun _ _ _ _ _ => @a1y _ _ 0 _ (show List.Nodup (["power", "total"] : List Str) by decide +kernel) rfl (Or.inl rfl) (Or.inr rfl)) (fun _ _ _ _ _ => a2P) (fun _ _ _ _ _ => (@c0U _ _ _ _ _ _ hr.units (@hv _ 1 _ _ (by rfl) (by walk_at "3") (by decide) (by decide)) (@hv _ 0 _ _ (by rfl) (by walk_at "3") (by decide) (by decide)) (by intro _ _; rfl))) (by intro _; rfl)) a0f (by rfl)) (by rfl) (by decide) (by decide) (by rfl) (by rfl)) a0f (by rfl)) (by rfl) (by decide) (by decide) (by rfl) (by rfl)) (@a4Q _ _ _ _ _ _ _ _ _ b4W Z.b_int PyProof.Rows.boot_int (@a0a _ _ _ _ _ (@hv _ 4 _ _ (by rfl) (by walk_at "3") (by decide) (by decide)) a0f (by rfl)) (by rfl) (by decide) (by decide) (by rfl) (by rfl)) (@a1C _ _ (by decide) (by decide)))))) (@a0l _ _ _ (@a1h _ _ _ _ h_bl)) a2E) (@a0d _ _ _ _ _ (@s_if _ _ _ _ _ _ _ _ (@HW.ht _ _ _ (@c1u _ _ _ _ _ _ _ (@a1W _ _ _ _ _ _ _ _ a8L (@b4f _ _ _ _ _ _ _ rfl (@a3v _ _ _ _ _ _ _ _ _ _ _ _ _ _ rfl (@a3K _ _ _ _ (@hv _ 2 _ _ (by rfl) (by walk_at "3") (by decide) (by decide))) (@a0T _ (a0b a4I) _ (["script", "strands", "word", "total", "one", "top", "counts"]) ["letter"] [none] (by decide +kernel) rfl rfl) a2c (fun _ _ _ _ _ => @a1y _ _ 0 _ (show List.Nodup (["letter"] : List Str) by decide +kernel) rfl (Or.inl rfl) (Or.inr rfl)) (fun _ _ _ _ _ => a2P) (fun _ _ _ _ _ => (@a1f _ _ _ _ _ _ _ _ _ a2V Z.b_abs PyProof.Rows.boot_abs (@a0a _ _ _ _ _ (@hv _ 0 _ _ (by rfl) (by walk_at "3") (by decide) (by decide)) a0f (by rfl)) (by rfl) (by decide) (by decide) (by rfl) (by rfl))) (by intro _; rfl)) Z.b_len Z.b_set (by rfl) (by rfl) (by rfl) (by rfl) (by rfl) (by rfl)) (@a0E _ _ _ _ _ _ _ _ a3q (@hv _ 1 _ _ (by rfl) (by walk_at "3") (by decide) (by decide)) a0j) (@a1C _ _ (by decide) (by decide))) (@b9w _ _ _ _ (@a1W _ _ _ _ _ _ _ _ (@b8s _ hr.units) (@hv _ 3 _ _ (by rfl) (by walk_at "3") (by decide) (by decide)) (@h_wk _ _ _ b4h) (@a1C _ _ (by decide) (by decide)))))) (@a0l _ _ _ (@a1h _ _ _ _ h_bl)) a2E) (@a0d _ _ _ _ _ (@s_if _ _ _ _ _ _ _ _ (@a1W _ _ _ _ _ _ _ _ (@b5O _ hr.units) (@hv _ 3 _ _ (by rfl) (by walk_at "3") (by decide) (by decide)) (@h_wk _ _ _ b4h) (@a1C _ _ (by decide) (by decide))) (@a0l _ _ _ (@a1h _ _ _ _ h_bl)) a2E) (@a0d _ _ _ _ _ (@a1t _ _ _ _ 5 _ _ (@a1f _ _ _ _ _ _ _ _ _ (@b2O _ rfl) Z.b_max PyProof.Rows.boot_max (@a0a _ _ _ _ _ (@hv _ 3 _ _ (by rfl) (by walk_at "3") (by decide) (by decide)) a0f (by rfl)) (by rfl) (by decide) (by decide) (by rfl) (by rfl)) a5G.nd (by rfl) (by walk_at "2") (by rfl) (by walk_at "4")) (@a0d _ _ _ _ _ (@s_if _ _ _ _ _ _ _ _ (@HW.ht _ _ _ (@w_or _ _ _ _ _ _ _ (@a1W _ _ _ _ _ _ _ _ (@b1h _ hr.units) (@a1f _ _ _ _ _ _ _ _ _ (@b2N _ rfl) Z.b_min PyProof.Rows.boot_min (@a0a _ _ _ _ _ (@hv _ 3 _ _ (by rfl) (by walk_at "3") (by decide) (by decide)) a0f (by rfl)) (by rfl) (by decide) (by decide) (by rfl) (by rfl)) a0j (@a1C _ _ (by decide) (by decide))) (@w_or _ _ _ _ _ _ _ (@a1W _ _ _ _ _ _ _ _ a8L (@c0U _ _ _ _ _ _ hr.units (@hv _ 3 _ _ (by rfl) (by walk_at "3") (by decide) (by decide)) a0j (by intro _ _; rfl)) a0j (@a1C _ _ (by decide) (by decide))) (@b7r _ _ _ _ (@a1W _ _ _ _ _ _ _ _ b1i (@hv _ 5 _ _ (by rfl) (by walk_at "3") (by decide) (by decide)) (@a0E _ _ _ _ _ _ _ _ a0I (@a0E _ _ _ _ _ _ _ _ a3q (@a1f _ _ _ _ _ _ _ _ _ a2U Z.b_len PySem.boot_len (@a0a _ _ _ _ _ (@hv _ 2 _ _ (by rfl) (by walk_at "3") (by decide) (by decide)) a0f (by rfl)) (by rfl) (by decide) (by decide) (by rfl) (by rfl)) (@hv _ 1 _ _ (by rfl) (by walk_at "3") (by decide) (by decide))) a0j) (@a1C _ _ (by decide) (by decide))))))) (@a0l _ _ _ (@a1h _ _ _ _ h_bl)) a2E) (@a0d _ _ _ _ _ (@b3m _ _ _ _ _ _ _ _ _ _ _ _ _ _ 6 _ _ _ rfl (@a5v _ _ _ _ _ _ Z.b_range (@a0a _ _ _ _ _ (@a0E _ _ _ _ _ _ _ _ a0I (@hv _ 5 _ _ (by rfl) (by walk_at "3") (by decide) (by decide)) a0j) a0f (by rfl)) (by rfl) (by rfl)) (@a0T _ (a0b a4I) _ (["script", "strands", "word", "total", "one", "top", "counts"]) (["power", "total"]) ([none, some 3]) (by decide +kernel) rfl rfl) a2c (fun _ _ _ _ _ => @a1y _ _ 0 _ (show List.Nodup (["power", "total"] : List Str) by decide +kernel) rfl (Or.inl rfl) (Or.inr rfl)) (fun _ _ _ _ _ => a2P) (fun _ _ _ _ _ => (@c0S _ _ _ _ _ _ _ _ _ hr.units (@hv _ 1 _ _ (by rfl) (by walk_at "3") (by decide) (by decide)) (@hv _ 0 _ _ (by rfl) (by walk_at "3") (by decide) (by decide)) a0j (by rfl) (by rfl) (by rfl) (by rfl))) a5G.nd (by rfl) (by walk_at "2") (by rfl) (by intro _; rfl) (by walk_at "4")) (@a0l _ _ _ (@a1h _ _ _ _ (@h_or _ _ _ _ _ _ _ (@b6i _ _ _ _ _ _ _ _ (@a6L _ hr.units) (@c0R _ _ _ _ _ _ _ (@hv _ 6 _ _ (by rfl) (by walk_at "3") (by decide) (by decide)) (@h_un _ _ _ _ _ _ a4z a0j) (by intro _ _; with_unfolding_all rfl)) (@hv _ 6 _ _ (by rfl) (by walk_at "3") (by decide) (by decide)) (@a1C _ _ (by decide) (by decide))) (@c2a _ _ _ _ _ (@b6i _ _ _ _ _ _ _ _ (@a6L _ hr.units) (@c0R _ _ _ _ _ _ _ (@hv _ 6 _ _ (by rfl) (by walk_at "3") (by decide) (by decide)) (@h_un _ _ _ _ _ _ a4z a0j) (by intro _ _; with_unfolding_all rfl)) (@a3v _ _ _ _ _ _ _ _ _ _ _ _ _ _ rfl (@a3K _ _ _ _ (@hv _ 6 _ _ (by rfl) (by walk_at "3") (by decide) (by decide))) (@a0T _ (a0b a4I) _ (["script", "strands", "word", "total", "one", "top", "counts"]) ["count"] [none] (by decide +kernel) rfl rfl) a2c (fun _ _ _ _ _ => @a1y _ _ 0 _ (show List.Nodup (["count"] : List Str) by decide +kernel) rfl (Or.inl rfl) (Or.inr rfl)) (fun _ _ _ _ _ => a2P) (fun _ _ _ _ _ => (@a0E _ _ _ _ _ _ _ _ a3q a0j (@hv _ 0 _ _ (by rfl) (by walk_at "3") (by decide) (by decide)))) (by intro _; rfl)) (@a1C _ _ (by decide) (by decide)))))))))))))))), fun ts M Q h => ?_⟩
 unfold a6C at h
 split at h
 ·rename_i s
  obtain ⟨ns, rfl, h⟩ := h
  refine a0C fun K1 hK1 => ?_
  walk_at "rd"
  refine ⟨ns, rfl, by decide, fun p k f hp => ?_⟩
  refine ⟨k, f, a0c, by decide, by decide, by decide, by decide, by decide, fun n w k1 h1 h2 hw hl => ?_⟩
  simp only [a8o]
  have hS := Sub.new hp (o := .lst [.int k1, .bl f])
  generalize updM M p (.lst [.int k1, .bl f]) = M1 at hS ⊢
  refine ⟨rfl, trivial, ?_⟩
  rw [hK1]; clear hK1 hp
  have hl9 : w.length ≤ 9 := by lia
  have okw : PlOK n w := ⟨by lia, by lia, by lia, hw⟩
  have hsm : a9G n w := Nat.le_trans (Nat.mul_le_mul (show n.toNat - 1 ≤ 3 by lia) hl9) (by decide)
  have hcan : CanP (a0s n w) := a2T _
  have hlen := a6X okw hsm
  have hone := b1P h1 h2 hw
  have hodd := b2a h1 h2 hw
  have htop := b6v okw h2
  have hsym := fun b => b6w okw h2 (b := b)
  have hleast := a6W okw
  have hap := fun (k : Nat) => b2M h1 h2 okw (k := k)
  generalize hP : a0s n w = P at hcan hlen hone hodd htop hsym hleast hap
  have hnd : (P.map Prod.fst).Nodup := List.pairwise_map.mpr (hcan.1.imp fun h z => Int.ne_of_lt h z)
  refine a0C fun K2 hK2 => ?_
  walk_at "rd"
  refine ⟨by decide, w, rfl, okw, hsm, ?_⟩
  rw [hP]
  refine ⟨dkI P, (b1D P).symm, by rw [a4s]; exact List.pairwise_map.mpr (hnd.imp fun h z => h (Sum.inl.inj z)), fun d hd => ?_⟩
  refine ⟨_, b2T, ?_⟩
  have hS2 := hS.newr hd (o := .fk (dkI P))
  have hMd : (updM M1 d (MO.fk (dkI P))) d = some (.fk (dkI P)) := a0c
  generalize updM M1 d (MO.fk (dkI P)) = M2 at hS2 hMd ⊢
  rw [hK2]; clear hK2 hd hS
  have hper : IsP n (a1B n w) := b1g hw
  refine a0C fun K3 hK3 => ?_
  walk_at "rd"
  refine ⟨by decide, w, rfl, okw, a1B n w, n, rfl, h1, by lia, hper, fun M3 hS3 => ⟨rfl, by rw [a5x]; decide, ?_⟩⟩
  rw [a5V]
  have hS3' := hS2.trans hS3
  have hMd3 := hS3 _ _ hMd
  rw [hK3]; clear hK3
  generalize hb : decide ((cycN (a1B n w) : Int) = 1) = b
  have hbi : b = true ↔ cycN (a1B n w) = 1 := by rw [← hb, decide_eq_true_eq]; lia
  refine a0C fun K4 hK4 => ?_
  walk_at "rd"
  refine ⟨by decide, w, rfl, okw, hsm, ?_⟩
  rw [hP]
  dsimp only
  refine ⟨by decide, ?_⟩
  have e1 : eqT (T.bl (decide (a4y P % 2 = 1))) (T.bl b) = true := by
   have : decide (a4y P % 2 = 1) = b := by
    cases b with
    | true => exact decide_eq_true (hodd.mpr (hbi.mp rfl))
    | false => exact decide_eq_false fun z => by have := hbi.mpr (hodd.mp z); cases this
   rw [this]
   exact b1B _ rfl
  rw [e1, if_neg (by decide), hMd3]
  dsimp only
  rw [b5X]
  refine ⟨fun i ys M' => ys = (((P.map Prod.fst).map (co P)).take i).map T.int ∧ M' = M3, ⟨rfl, rfl⟩, fun _ _ _ _ => trivial, a0Z (by rw [List.length_map, List.length_map]; lia), ?_, ?_⟩
  ·rintro i x ys M' hx ⟨rfl, rfl⟩
   obtain ⟨y, hy, rfl⟩ := a0W hx
   rw [hMd3]
   dsimp only
   refine ⟨.inl y, _, rfl, a2C hnd (List.mem_of_getElem? hy), ?_, rfl⟩
   have e : ((P.map Prod.fst).map (co P))[i]? = some (co P y) := by rw [List.getElem?_map, hy]; rfl
   rw [List.take_add_one, e, List.map_append]; rfl
  rintro ys M' ⟨rfl, rfl⟩ q hq
  rw [List.length_map, List.length_map, List.take_of_length_le (by rw [List.length_map, List.length_map]; exact Nat.le_refl _), a4o]
  dsimp only
  have e2 : (((P.map Prod.fst).map (co P)).sum.natAbs : Int) = if b = true then 1 else 0 := by
   rw [b9W hcan, hone]
   by_cases c : b = true
   ·rw [if_pos c, if_pos (hbi.mp c)]; rfl
   ·rw [if_neg c, if_neg (fun z => c (hbi.mpr z))]; rfl
  rw [if_neg (fun z => z e2)]
  have hS4 := hS3'.newr hq (o := .lst (((P.map Prod.fst).map (co P)).map T.int))
  have hMd4 := (Sub.new hq (o := .lst (((P.map Prod.fst).map (co P)).map T.int))) _ _ hMd3
  generalize updM M' q (.lst (((P.map Prod.fst).map (co P)).map T.int)) = M4 at hS4 hMd4 ⊢
  clear hS2 hMd hS3 hS3' hMd3 hq
  rw [hK4]; clear hK4
  refine a0C fun K5 hK5 => ?_
  walk_at "rd"
  have rest : ∀ M5, Sub M M5 → M5 d = some (.fk (dkI P)) → K5 [some (T.rd (List.map T.int ns)), some (T.int n), some (T.tup (List.map T.int w)), some (T.adr d), some (T.bl b), none, none] M5 := by
   intro M5 hS5 hMd5
   rw [hK5]; clear hK5
   refine a0C fun K6 hK6 => ?_
   walk_at "rd"
   intro q hq
   refine ⟨_, b2T, ?_⟩
   have hS6 := hS5.newr hq (o := .fk [])
   have hMd6 := (Sub.new hq (o := .fk [])) _ _ hMd5
   have hMq : (updM M5 q (.fk [])) q = some (.fk (dkI [])) := a0c
   generalize updM M5 q (.fk []) = M6 at hS6 hMd6 hMq ⊢
   unfold b7V
   dsimp only
   refine ⟨P, hMd6, hMq, ?_⟩
   clear hP hq hMq hS5 hMd5
   cases P with
   | nil =>
     rw [if_pos (show ([] : Po).isEmpty = true from rfl)]
     exact a1j h hS6
   | cons x r =>
     rw [if_neg (show ¬ (x :: r).isEmpty = true by intro z; cases z), hK6]
     clear hK6
     obtain ⟨v, r', er, v0, _⟩ := hleast (fun z => by cases z)
     injection er with ex err
     subst ex
     have hlo : ∀ a ∈ (((0 : Int), v) :: r).map Prod.fst, 0 ≤ a := fun a ha => by
      obtain ⟨y, hy, rfl⟩ := List.mem_map.mp ha
      rcases List.mem_cons.mp hy with z | z
      ·rw [z]; exact Int.le_refl _
      ·exact Int.le_of_lt (List.rel_of_pairwise_cons hcan.1 z)
     have h0m : (0 : Int) ∈ (((0 : Int), v) :: r).map Prod.fst := by rw [List.map_cons]; exact .head _
     have hc0 : co (((0 : Int), v) :: r) 0 = v := a2z hcan.1 (x := ((0 : Int), v)) (.head _)
     refine a0C fun K7 hK7 => ?_
     walk_at "rd"
     unfold b3r
     dsimp only
     rw [hMd6]
     dsimp only
     refine ⟨(((0 : Int), v) :: r).map Prod.fst, a4s _, by rw [List.length_map, List.length_cons]; lia, fun top ht1 ht2 => ?_⟩
     have htl : top ≤ (w.length : Int) - n + 1 := by
      obtain ⟨y, hy, e⟩ := List.mem_map.mp ht1
      rw [← e]; exact htop y hy
     have ht0 := hlo top ht1
     rw [hK7]; clear hK7
     refine a0C fun K8 hK8 => ?_
     walk_at "rd"
     unfold b3q
     dsimp only
     rw [hMd6]
     dsimp only
     refine ⟨(((0 : Int), v) :: r).map Prod.fst, a4s _, by rw [List.length_map, List.length_cons]; lia, fun lo hl1 hl2 => ?_⟩
     obtain rfl : lo = 0 := by
      have a1 := hl2 0 h0m
      have a2 := hlo lo hl1
      lia
     refine ⟨rfl, by rw [a5x]; decide, ?_⟩
     rw [a5V, decide_eq_true rfl, if_neg (by decide)]
     refine ⟨.inl 0, _, rfl, a2C hnd h0m, ?_⟩
     dsimp only
     rw [hc0, if_neg (by lia), if_neg (by lia), hK8]
     clear hK8
     have hcz : ∀ c, co (((0 : Int), v) :: r) c ≠ 0 → c ≤ top := fun c hc => by
      by_cases z : ∃ y ∈ (((0 : Int), v) :: r), y.1 = c
      ·obtain ⟨y, hy, rfl⟩ := z
       exact ht2 _ (List.mem_map.mpr ⟨y, hy, rfl⟩)
      ·exact absurd (a1m fun y hy e => z ⟨y, hy, e⟩) hc
     have hct : co (((0 : Int), v) :: r) top ≠ 0 := by
      obtain ⟨y, hy, rfl⟩ := List.mem_map.mp ht1
      rw [a2z hcan.1 hy]
      exact hcan.2 y hy
     obtain ⟨s, hs, hsy⟩ := hsym top hct hcz
     generalize (((0 : Int), v) :: r) = P at *
     refine a0C fun K9 hK9 => ?_
     walk_at "rd"
     refine ⟨by lia, by lia, fun i ys M' => ys = (((List.range (top + 1).toNat).map fun (i : Nat) => co P (i : Int)).take i).map T.int ∧ M' = M6, ⟨rfl, rfl⟩, fun _ _ _ _ => trivial, by rw [a0H]; exact a0Z (by lia), ?_, ?_⟩
     ·rintro i x ys M' hx ⟨rfl, rfl⟩
      obtain ⟨hi, rfl⟩ := a5I hx
      unfold b1t
      dsimp only
      rw [hMd6]
      dsimp only
      refine ⟨trivial, .inl (i : Int), rfl, ?_, rfl⟩
      rw [a5o (i : Int) hnd]
      have e : ((List.range (top + 1).toNat).map fun (i : Nat) => co P (i : Int))[i]? = some (co P (i : Int)) := by rw [List.getElem?_map, List.getElem?_range hi]; rfl
      rw [List.take_add_one, e, List.map_append]; rfl
     ·rintro ys M' ⟨rfl, rfl⟩ z hz
      rw [a0H, List.take_of_length_le (by rw [List.length_map, List.length_range]; exact Nat.le_refl _)]
      have hrev : ((List.range (top + 1).toNat).map fun (i : Nat) => co P (i : Int)).reverse = ((List.range (top + 1).toNat).map fun (i : Nat) => co P (i : Int)).map fun c => s * c := by
       refine List.ext_getElem? fun i => ?_
       by_cases hi : i < (top + 1).toNat
       ·rw [List.getElem?_reverse (by rw [List.length_map, List.length_range]; exact hi), List.length_map, List.length_range, List.getElem?_map, List.getElem?_range (by lia), List.getElem?_map, List.getElem?_map, List.getElem?_range hi]
        show some (co P (((top + 1).toNat - 1 - i : Nat) : Int)) = some (s * co P (i : Int))
        rw [hsy, show top - (((top + 1).toNat - 1 - i : Nat) : Int) = (i : Int) by lia]
       ·rw [List.getElem?_eq_none (by rw [List.length_reverse, List.length_map, List.length_range]; lia), List.getElem?_eq_none (by rw [List.length_map, List.length_map, List.length_range]; lia)]
      have hCl0 : ((List.range (top + 1).toNat).map fun (i : Nat) => co P (i : Int)).length < 10000 := by rw [List.length_map, List.length_range]; lia
      generalize ((List.range (top + 1).toNat).map fun (i : Nat) => co P (i : Int)) = C at hrev hz hCl0 ⊢
      have hS7 := hS6.newr hz (o := .lst (C.map T.int))
      have hMz : (updM M' z (.lst (C.map T.int))) z = some (.lst (C.map T.int)) := a0c
      generalize updM M' z (.lst (C.map T.int)) = M7 at hS7 hMz ⊢
      rw [hK9]; clear hK9
      walk_at "rd"
      rw [hMz]
      dsimp only
      intro r1 hr1
      have hX1 := Sub.new hr1 (o := MO.lst (C.map T.int).reverse)
      have hMz1 := hX1 _ _ hMz
      have hS8 := hS7.trans hX1
      rw [hMz1]
      dsimp only
      have eC : (C.map T.int).reverse = (C.map fun c => s * c).map T.int := by rw [← List.map_reverse, hrev]
      rw [eC]
      rw [eC] at hX1 hMz1 hS8
      have hCl : C.length < sizeLine := by
       have : C.length = C.length := rfl
       exact a0Z hCl0
      refine ⟨a1I _, a1I _, by rw [a4Y]; decide, ?_⟩
      generalize updM M7 r1 (MO.lst ((C.map fun c => s * c).map T.int)) = M8 at hX1 hMz1 hS8 ⊢
      by_cases cc : eqTs ((C.map fun c => s * c).map T.int) (C.map T.int) = true
      ·rw [if_pos cc]
       exact a1j h hS8
      ·rw [if_neg cc]
       have hsm1 : s = -1 := by
        rcases hs with z | z
        ·refine absurd ?_ cc
         rw [z, show (C.map fun c => (1 : Int) * c) = C by rw [show (fun c : Int => (1 : Int) * c) = id from funext fun c => Int.one_mul c, List.map_id]]
         exact a4r _ (a1I _)
        ·exact z
       intro r2 hr2
       have hX2 := Sub.new hr2 (o := MO.lst ((C.map fun c => s * c).map T.int))
       have hMz2 := hX2 _ _ hMz1
       have hMr2 : (updM M8 r2 (MO.lst ((C.map fun c => s * c).map T.int))) r2 = some (.lst ((C.map fun c => s * c).map T.int)) := a0c
       have hS9 := hS8.trans hX2
       generalize updM M8 r2 (MO.lst ((C.map fun c => s * c).map T.int)) = M9 at hX2 hMz2 hMr2 hS9 ⊢
       rw [hMz2]
       dsimp only
       refine ⟨fun i ys M' => ys = ((C.take i).map fun c => 0 - c).map T.int ∧ M' = M9, ⟨rfl, rfl⟩, ?_, by rw [List.length_map]; exact hCl, ?_, ?_⟩
       ·rintro i ys M' ⟨_, rfl⟩
        exact hMz2
       ·rintro i x ys M' hx ⟨rfl, rfl⟩
        obtain ⟨y, hy, rfl⟩ := a0W hx
        dsimp only
        refine ⟨?_, rfl⟩
        rw [← a1p (fun c : Int => 0 - c) hy, List.map_append]; rfl
       ·rintro ys M' ⟨rfl, rfl⟩ z2 hz2
        rw [List.length_map, List.take_length]
        have hX3 := Sub.new hz2 (o := MO.lst ((C.map fun c => 0 - c).map T.int))
        rw [hX3 _ _ hMr2]
        dsimp only
        refine ⟨a1I _, a1I _, by rw [a4Y]; decide, ?_⟩
        have ee : (C.map fun c => s * c) = C.map fun c => 0 - c := List.map_congr_left fun c _ => by rw [hsm1]; lia
        rw [ee, a4r _ (a1I _)]
        exact a1j h (hS9.trans hX3)
  refine ⟨fun i ys M' => ys = ((w.take i).map fun l => (l.natAbs : Int)).map T.int ∧ M' = M4, ⟨rfl, rfl⟩, fun _ _ _ _ => trivial, a0Z (by lia), ?_, ?_⟩
  ·rintro i x ys M' hx ⟨rfl, rfl⟩
   obtain ⟨l, hx2, rfl⟩ := a0W hx
   dsimp only
   refine ⟨?_, rfl⟩
   rw [← a1p (fun l : Int => (l.natAbs : Int)) hx2, List.map_append]; rfl
  rintro ys M' ⟨rfl, rfl⟩ q hq
  rw [List.take_length]
  refine ⟨_, rfl, by rw [List.length_map]; lia, ?_⟩
  have hS5 := hS4.newr hq (o := .lst ((w.map fun l => (l.natAbs : Int)).map T.int))
  have hMd5 := (Sub.new hq (o := .lst ((w.map fun l => (l.natAbs : Int)).map T.int))) _ _ hMd4
  generalize updM M' q (.lst ((w.map fun l => (l.natAbs : Int)).map T.int)) = M5 at hS5 hMd5 ⊢
  refine ite2 (fun c => ?_) (fun c => rest M5 hS5 hMd5)
  intro q2 hq2
  obtain ⟨k, k1, k2, hk⟩ := b7F (ns := w.map fun l => (l.natAbs : Int)) (m := n.toNat - 1) (by lia)
  have hPn : P = [] := hap k k1 (by lia) fun l hl e => hk (List.mem_map.mpr ⟨l, hl, by rw [e]⟩)
  have hS6 := hS5.newr hq2 (o := .fk [])
  have hMd6 := (Sub.new hq2 (o := .fk [])) _ _ hMd5
  refine ⟨_, b2T, [], by rw [hMd6, hPn], a0c, ⟨.nil, fun _ z => absurd z List.not_mem_nil⟩, rest _ hS6 hMd6⟩
 ·exact h.elim
theorem c1j {l : PySem.W.OpenLaw} {w : World} {K : PySem.W.Frag} {h : Heap} {mg : Str → Option Value} {fa f1 f2 f3 f4 f5 f6 f7 f8 f9 f10 f11 f12 f13 f14 f15 f16 f17 f18 f19 f20 f21 f22 f23 f24 : Addr} (X : K.In h) (G : h.Ns mainGlobals mg) (hfa : mg "law" = some (.ref fa))
  {od1 od2 od3 od4 od5 od6 od7 od8 od9 od10 od11 od12 od13 od14 od15 od16 od17 od18 od19 od20 od21 od22 od23 od24 an1 an2 an3 an4 an5 an6 an7 an8 an9 an10 an11 an12 an13 an14 an15 an16 an17 an18 an19 an20 an21 an22 an23 an24 : Option Addr} {sl1 sl2 sl3 sl4 sl5 sl6 sl7 sl8 sl9 sl10 sl11 sl12 sl13 sl14 sl15 sl16 sl17 sl18 sl19 sl20 sl21 sl22 sl23 sl24 : Array (Option Value)} {oc1 oc2 oc3 oc4 oc5 oc6 oc7 oc8 oc9 oc10 oc11 oc12 oc13 oc14 oc15 oc16 oc17 oc18 oc19 oc20 oc21 oc22 oc23 oc24 kV1 kV2 kV3 kV4 kV5 kV6 kV7 kV8 kV9 kV10 kV11 kV12 kV13 kV14 kV15 kV16 kV17 kV18 kV19 kV20 kV21 kV22 kV23 kV24 dc1 dc2 dc3 dc4 dc5 dc6 dc7 dc8 dc9 dc10 dc11 dc12 dc13 dc14 dc15 dc16 dc17 dc18 dc19 dc20 dc21 dc22 dc23 dc24 pm1 pm2 pm3 pm4 pm5 pm6 pm7 pm8 pm9 pm10 pm11 pm12 pm13 pm14 pm15 pm16 pm17 pm18 pm19 pm20 pm21 pm22 pm23 pm24 cd1 cd2 cd3 cd4 cd5 cd6 cd7 cd8 cd9 cd10 cd11 cd12 cd13 cd14 cd15 cd16 cd17 cd18 cd19 cd20 cd21 cd22 cd23 cd24 ct1 ct2 ct3 ct4 ct5 ct6 ct7 ct8 ct9 ct10 ct11 ct12 ct13 ct14 ct15 ct16 ct17 ct18 ct19 ct20 ct21 ct22 ct23 ct24 : Value}
  (a1 : PySem.W.nsIn K mainGlobals "is_letter" = some (some (.ref f1))) (l1 : K.lookup f1 = some ⟨oc1, od1, .func (PySem.W.fnOf "is_letter" "is_letter" (a0u a2a) (a0q a2a) (a0b a2a) .none kV1 dc1 pm1 an1 cd1 ct1), sl1⟩) (c1 : PySem.W.codeIn K cd1 "is_letter" = true) (k1 : PySem.W.keepIn K (.ref f1) = true)
  (a2 : PySem.W.nsIn K mainGlobals "is_word" = some (some (.ref f2))) (l2 : K.lookup f2 = some ⟨oc2, od2, .func (PySem.W.fnOf "is_word" "is_word" (a0u a2x) (a0q a2x) (a0b a2x) .none kV2 dc2 pm2 an2 cd2 ct2), sl2⟩) (c2 : PySem.W.codeIn K cd2 "is_word" = true) (k2 : PySem.W.keepIn K (.ref f2) = true)
  (a3 : PySem.W.nsIn K mainGlobals "is_plait" = some (some (.ref f3))) (l3 : K.lookup f3 = some ⟨oc3, od3, .func (PySem.W.fnOf "is_plait" "is_plait" (a0u a2v) (a0q a2v) (a0b a2v) .none kV3 dc3 pm3 an3 cd3 ct3), sl3⟩) (c3 : PySem.W.codeIn K cd3 "is_plait" = true) (k3 : PySem.W.keepIn K (.ref f3) = true)
  (a4 : PySem.W.nsIn K mainGlobals "looked" = some (some (.ref f4))) (l4 : K.lookup f4 = some ⟨oc4, od4, .func (PySem.W.fnOf "looked" "looked" (a0u a3C) (a0q a3C) (a0b a3C) .none kV4 dc4 pm4 an4 cd4 ct4), sl4⟩) (c4 : PySem.W.codeIn K cd4 "looked" = true) (k4 : PySem.W.keepIn K (.ref f4) = true)
  (a5 : PySem.W.nsIn K mainGlobals "exchanged" = some (some (.ref f5))) (l5 : K.lookup f5 = some ⟨oc5, od5, .func (PySem.W.fnOf "exchanged" "exchanged" (a0u a2b) (a0q a2b) (a0b a2b) .none kV5 dc5 pm5 an5 cd5 ct5), sl5⟩) (c5 : PySem.W.codeIn K cd5 "exchanged" = true) (k5 : PySem.W.keepIn K (.ref f5) = true)
  (a6 : PySem.W.nsIn K mainGlobals "places_in" = some (some (.ref f6))) (l6 : K.lookup f6 = some ⟨oc6, od6, .func (PySem.W.fnOf "places_in" "places_in" (a0u a1G) (a0q a1G) (a0b a1G) .none kV6 dc6 pm6 an6 cd6 ct6), sl6⟩) (c6 : PySem.W.codeIn K cd6 "places_in" = true) (k6 : PySem.W.keepIn K (.ref f6) = true)
  (a7 : PySem.W.nsIn K mainGlobals "order_of" = some (some (.ref f7))) (l7 : K.lookup f7 = some ⟨oc7, od7, .func (PySem.W.fnOf "order_of" "order_of" (a0u a2u) (a0q a2u) (a0b a2u) .none kV7 dc7 pm7 an7 cd7 ct7), sl7⟩) (c7 : PySem.W.codeIn K cd7 "order_of" = true) (k7 : PySem.W.keepIn K (.ref f7) = true)
  (a8 : PySem.W.nsIn K mainGlobals "without_noughts" = some (some (.ref f8))) (l8 : K.lookup f8 = some ⟨oc8, od8, .func (PySem.W.fnOf "without_noughts" "without_noughts" (a0u a0x) (a0q a0x) (a0b a0x) .none kV8 dc8 pm8 an8 cd8 ct8), sl8⟩) (c8 : PySem.W.codeIn K cd8 "without_noughts" = true) (k8 : PySem.W.keepIn K (.ref f8) = true)
  (a9 : PySem.W.nsIn K mainGlobals "added" = some (some (.ref f9))) (l9 : K.lookup f9 = some ⟨oc9, od9, .func (PySem.W.fnOf "added" "added" (a0u a4J) (a0q a4J) (a0b a4J) .none kV9 dc9 pm9 an9 cd9 ct9), sl9⟩) (c9 : PySem.W.codeIn K cd9 "added" = true) (k9 : PySem.W.keepIn K (.ref f9) = true)
  (a10 : PySem.W.nsIn K mainGlobals "multiplied" = some (some (.ref f10))) (l10 : K.lookup f10 = some ⟨oc10, od10, .func (PySem.W.fnOf "multiplied" "multiplied" (a0u a1L) (a0q a1L) (a0b a1L) .none kV10 dc10 pm10 an10 cd10 ct10), sl10⟩) (c10 : PySem.W.codeIn K cd10 "multiplied" = true) (k10 : PySem.W.keepIn K (.ref f10) = true)
  (a11 : PySem.W.nsIn K mainGlobals "one_where_same" = some (some (.ref f11))) (l11 : K.lookup f11 = some ⟨oc11, od11, .func (PySem.W.fnOf "one_where_same" "one_where_same" (a0u a0O) (a0q a0O) (a0b a0O) .none kV11 dc11 pm11 an11 cd11 ct11), sl11⟩) (c11 : PySem.W.codeIn K cd11 "one_where_same" = true) (k11 : PySem.W.keepIn K (.ref f11) = true)
  (a12 : PySem.W.nsIn K mainGlobals "with_letter" = some (some (.ref f12))) (l12 : K.lookup f12 = some ⟨oc12, od12, .func (PySem.W.fnOf "with_letter" "with_letter" (a0u a1r) (a0q a1r) (a0b a1r) .none kV12 dc12 pm12 an12 cd12 ct12), sl12⟩) (c12 : PySem.W.codeIn K cd12 "with_letter" = true) (k12 : PySem.W.keepIn K (.ref f12) = true)
  (a13 : PySem.W.nsIn K mainGlobals "table_of" = some (some (.ref f13))) (l13 : K.lookup f13 = some ⟨oc13, od13, .func (PySem.W.fnOf "table_of" "table_of" (a0u a1s) (a0q a1s) (a0b a1s) .none kV13 dc13 pm13 an13 cd13 ct13), sl13⟩) (c13 : PySem.W.codeIn K cd13 "table_of" = true) (k13 : PySem.W.keepIn K (.ref f13) = true)
  (a14 : PySem.W.nsIn K mainGlobals "determinant" = some (some (.ref f14))) (l14 : K.lookup f14 = some ⟨oc14, od14, .func (PySem.W.fnOf "determinant" "determinant" (a0u a0R) (a0q a0R) (a0b a0R) .none kV14 dc14 pm14 an14 cd14 ct14), sl14⟩) (c14 : PySem.W.codeIn K cd14 "determinant" = true) (k14 : PySem.W.keepIn K (.ref f14) = true)
  (a15 : PySem.W.nsIn K mainGlobals "from_nought" = some (some (.ref f15))) (l15 : K.lookup f15 = some ⟨oc15, od15, .func (PySem.W.fnOf "from_nought" "from_nought" (a0u a1u) (a0q a1u) (a0b a1u) .none kV15 dc15 pm15 an15 cd15 ct15), sl15⟩) (c15 : PySem.W.codeIn K cd15 "from_nought" = true) (k15 : PySem.W.keepIn K (.ref f15) = true)
  (a16 : PySem.W.nsIn K mainGlobals "closed_sum" = some (some (.ref f16))) (l16 : K.lookup f16 = some ⟨oc16, od16, .func (PySem.W.fnOf "closed_sum" "closed_sum" (a0u a1i) (a0q a1i) (a0b a1i) .none kV16 dc16 pm16 an16 cd16 ct16), sl16⟩) (c16 : PySem.W.codeIn K cd16 "closed_sum" = true) (k16 : PySem.W.keepIn K (.ref f16) = true)
  (a17 : PySem.W.nsIn K mainGlobals "closed_weight" = some (some (.ref f17))) (l17 : K.lookup f17 = some ⟨oc17, od17, .func (PySem.W.fnOf "closed_weight" "closed_weight" (a0u a0L) (a0q a0L) (a0b a0L) .none kV17 dc17 pm17 an17 cd17 ct17), sl17⟩) (c17 : PySem.W.codeIn K cd17 "closed_weight" = true) (k17 : PySem.W.keepIn K (.ref f17) = true)
  (a18 : PySem.W.nsIn K mainGlobals "_law_cell_at" = some (some (.ref f18))) (l18 : K.lookup f18 = some ⟨oc18, od18, .func (PySem.W.fnOf "_law_cell_at" "_law_cell_at" (a0u a1d) (a0q a1d) (a0b a1d) .none kV18 dc18 pm18 an18 cd18 ct18), sl18⟩) (c18 : PySem.W.codeIn K cd18 "_law_cell_at" = true) (k18 : PySem.W.keepIn K (.ref f18) = true)
  (a19 : PySem.W.nsIn K mainGlobals "_law_state" = some (some (.ref f19))) (l19 : K.lookup f19 = some ⟨oc19, od19, .func (PySem.W.fnOf "_law_state" "_law_state" (a0u a1M) (a0q a1M) (a0b a1M) .none kV19 dc19 pm19 an19 cd19 ct19), sl19⟩) (c19 : PySem.W.codeIn K cd19 "_law_state" = true) (k19 : PySem.W.keepIn K (.ref f19) = true)
  (a20 : PySem.W.nsIn K mainGlobals "_law_choice" = some (some (.ref f20))) (l20 : K.lookup f20 = some ⟨oc20, od20, .func (PySem.W.fnOf "_law_choice" "_law_choice" (a0u a1w) (a0q a1w) (a0b a1w) .none kV20 dc20 pm20 an20 cd20 ct20), sl20⟩) (c20 : PySem.W.codeIn K cd20 "_law_choice" = true) (k20 : PySem.W.keepIn K (.ref f20) = true)
  (a21 : PySem.W.nsIn K mainGlobals "_law_word" = some (some (.ref f21))) (l21 : K.lookup f21 = some ⟨oc21, od21, .func (PySem.W.fnOf "_law_word" "_law_word" (a0u a1H) (a0q a1H) (a0b a1H) .none kV21 dc21 pm21 an21 cd21 ct21), sl21⟩) (c21 : PySem.W.codeIn K cd21 "_law_word" = true) (k21 : PySem.W.keepIn K (.ref f21) = true)
  (a22 : PySem.W.nsIn K mainGlobals "_law_plait" = some (some (.ref f22))) (l22 : K.lookup f22 = some ⟨oc22, od22, .func (PySem.W.fnOf "_law_plait" "_law_plait" (a0u a1N) (a0q a1N) (a0b a1N) .none kV22 dc22 pm22 an22 cd22 ct22), sl22⟩) (c22 : PySem.W.codeIn K cd22 "_law_plait" = true) (k22 : PySem.W.keepIn K (.ref f22) = true)
  (a23 : PySem.W.nsIn K mainGlobals "_law_pieces" = some (some (.ref f23))) (l23 : K.lookup f23 = some ⟨oc23, od23, .func (PySem.W.fnOf "_law_pieces" "_law_pieces" (a0u a1v) (a0q a1v) (a0b a1v) .none kV23 dc23 pm23 an23 cd23 ct23), sl23⟩) (c23 : PySem.W.codeIn K cd23 "_law_pieces" = true) (k23 : PySem.W.keepIn K (.ref f23) = true)
  (a24 : PySem.W.nsIn K mainGlobals "law" = some (some (.ref f24))) (l24 : K.lookup f24 = some ⟨oc24, od24, .func (PySem.W.fnOf "law" "law" (a0u a4I) (a0q a4I) (a0b a4I) .none kV24 dc24 pm24 an24 cd24 ct24), sl24⟩) (c24 : PySem.W.codeIn K cd24 "law" = true) (k24 : PySem.W.keepIn K (.ref f24) = true)
  (z_abs : PySem.W.nsIn K mainGlobals "abs" = some none)
  (z_all : PySem.W.nsIn K mainGlobals "all" = some none)
  (z_dict : PySem.W.nsIn K mainGlobals "dict" = some none)
  (z_enumerate : PySem.W.nsIn K mainGlobals "enumerate" = some none)
  (z_int : PySem.W.nsIn K mainGlobals "int" = some none)
  (z_len : PySem.W.nsIn K mainGlobals "len" = some none)
  (z_list : PySem.W.nsIn K mainGlobals "list" = some none)
  (z_max : PySem.W.nsIn K mainGlobals "max" = some none)
  (z_min : PySem.W.nsIn K mainGlobals "min" = some none)
  (z_range : PySem.W.nsIn K mainGlobals "range" = some none)
  (z_set : PySem.W.nsIn K mainGlobals "set" = some none)
  (z_sorted : PySem.W.nsIn K mainGlobals "sorted" = some none)
  (z_sum : PySem.W.nsIn K mainGlobals "sum" = some none)
  (z_tuple : PySem.W.nsIn K mainGlobals "tuple" = some none)
  {u_DOWN : Addr} (g_DOWN : PySem.W.nsIn K mainGlobals "DOWN" = some (some (.ref u_DOWN)))
  {n_DOWN : Nat} {s_DOWN : Array (Option Value)} {u_DOWN_0 : Addr} (l_DOWN : K.lookup u_DOWN = some ⟨.type "tuple", none, .seq #[.ref u_DOWN_0] n_DOWN, s_DOWN⟩)
  {n_DOWN_0 : Nat} {s_DOWN_0 : Array (Option Value)} {t_DOWN_0_0 : Tok} {t_DOWN_0_1 : Tok} (l_DOWN_0 : K.lookup u_DOWN_0 = some ⟨.type "tuple", none, .seq #[.int (-1) t_DOWN_0_0, .int (1) t_DOWN_0_1] n_DOWN_0, s_DOWN_0⟩)
  {u_LESS_DOWN : Addr} (g_LESS_DOWN : PySem.W.nsIn K mainGlobals "LESS_DOWN" = some (some (.ref u_LESS_DOWN)))
  {n_LESS_DOWN : Nat} {s_LESS_DOWN : Array (Option Value)} {u_LESS_DOWN_0 : Addr} {u_LESS_DOWN_1 : Addr} (l_LESS_DOWN : K.lookup u_LESS_DOWN = some ⟨.type "tuple", none, .seq #[.ref u_LESS_DOWN_0, .ref u_LESS_DOWN_1] n_LESS_DOWN, s_LESS_DOWN⟩)
  {n_LESS_DOWN_0 : Nat} {s_LESS_DOWN_0 : Array (Option Value)} {t_LESS_DOWN_0_0 : Tok} {t_LESS_DOWN_0_1 : Tok} (l_LESS_DOWN_0 : K.lookup u_LESS_DOWN_0 = some ⟨.type "tuple", none, .seq #[.int (-1) t_LESS_DOWN_0_0, .int (-1) t_LESS_DOWN_0_1] n_LESS_DOWN_0, s_LESS_DOWN_0⟩)
  {n_LESS_DOWN_1 : Nat} {s_LESS_DOWN_1 : Array (Option Value)} {t_LESS_DOWN_1_0 : Tok} {t_LESS_DOWN_1_1 : Tok} (l_LESS_DOWN_1 : K.lookup u_LESS_DOWN_1 = some ⟨.type "tuple", none, .seq #[.int (0) t_LESS_DOWN_1_0, .int (1) t_LESS_DOWN_1_1] n_LESS_DOWN_1, s_LESS_DOWN_1⟩)
  {u_LESS_ONE : Addr} (g_LESS_ONE : PySem.W.nsIn K mainGlobals "LESS_ONE" = some (some (.ref u_LESS_ONE)))
  {n_LESS_ONE : Nat} {s_LESS_ONE : Array (Option Value)} {u_LESS_ONE_0 : Addr} (l_LESS_ONE : K.lookup u_LESS_ONE = some ⟨.type "tuple", none, .seq #[.ref u_LESS_ONE_0] n_LESS_ONE, s_LESS_ONE⟩)
  {n_LESS_ONE_0 : Nat} {s_LESS_ONE_0 : Array (Option Value)} {t_LESS_ONE_0_0 : Tok} {t_LESS_ONE_0_1 : Tok} (l_LESS_ONE_0 : K.lookup u_LESS_ONE_0 = some ⟨.type "tuple", none, .seq #[.int (0) t_LESS_ONE_0_0, .int (-1) t_LESS_ONE_0_1] n_LESS_ONE_0, s_LESS_ONE_0⟩)
  {u_LESS_UP : Addr} (g_LESS_UP : PySem.W.nsIn K mainGlobals "LESS_UP" = some (some (.ref u_LESS_UP)))
  {n_LESS_UP : Nat} {s_LESS_UP : Array (Option Value)} {u_LESS_UP_0 : Addr} {u_LESS_UP_1 : Addr} (l_LESS_UP : K.lookup u_LESS_UP = some ⟨.type "tuple", none, .seq #[.ref u_LESS_UP_0, .ref u_LESS_UP_1] n_LESS_UP, s_LESS_UP⟩)
  {n_LESS_UP_0 : Nat} {s_LESS_UP_0 : Array (Option Value)} {t_LESS_UP_0_0 : Tok} {t_LESS_UP_0_1 : Tok} (l_LESS_UP_0 : K.lookup u_LESS_UP_0 = some ⟨.type "tuple", none, .seq #[.int (0) t_LESS_UP_0_0, .int (1) t_LESS_UP_0_1] n_LESS_UP_0, s_LESS_UP_0⟩)
  {n_LESS_UP_1 : Nat} {s_LESS_UP_1 : Array (Option Value)} {t_LESS_UP_1_0 : Tok} {t_LESS_UP_1_1 : Tok} (l_LESS_UP_1 : K.lookup u_LESS_UP_1 = some ⟨.type "tuple", none, .seq #[.int (1) t_LESS_UP_1_0, .int (-1) t_LESS_UP_1_1] n_LESS_UP_1, s_LESS_UP_1⟩)
  {tk_MOST_LETTERS : Tok} (g_MOST_LETTERS : PySem.W.nsIn K mainGlobals "MOST_LETTERS" = some (some (.int 16 tk_MOST_LETTERS)))
  {tk_MOST_STRANDS : Tok} (g_MOST_STRANDS : PySem.W.nsIn K mainGlobals "MOST_STRANDS" = some (some (.int 6 tk_MOST_STRANDS)))
  {u_NOUGHT : Addr} (g_NOUGHT : PySem.W.nsIn K mainGlobals "NOUGHT" = some (some (.ref u_NOUGHT)))
  {n_NOUGHT : Nat} {s_NOUGHT : Array (Option Value)} (l_NOUGHT : K.lookup u_NOUGHT = some ⟨.type "tuple", none, .seq #[] n_NOUGHT, s_NOUGHT⟩)
  {u_ONE : Addr} (g_ONE : PySem.W.nsIn K mainGlobals "ONE" = some (some (.ref u_ONE)))
  {n_ONE : Nat} {s_ONE : Array (Option Value)} {u_ONE_0 : Addr} (l_ONE : K.lookup u_ONE = some ⟨.type "tuple", none, .seq #[.ref u_ONE_0] n_ONE, s_ONE⟩)
  {n_ONE_0 : Nat} {s_ONE_0 : Array (Option Value)} {t_ONE_0_0 : Tok} {t_ONE_0_1 : Tok} (l_ONE_0 : K.lookup u_ONE_0 = some ⟨.type "tuple", none, .seq #[.int (0) t_ONE_0_0, .int (1) t_ONE_0_1] n_ONE_0, s_ONE_0⟩)
  {u_UP : Addr} (g_UP : PySem.W.nsIn K mainGlobals "UP" = some (some (.ref u_UP)))
  {n_UP : Nat} {s_UP : Array (Option Value)} {u_UP_0 : Addr} (l_UP : K.lookup u_UP = some ⟨.type "tuple", none, .seq #[.ref u_UP_0] n_UP, s_UP⟩)
  {n_UP_0 : Nat} {s_UP_0 : Array (Option Value)} {t_UP_0_0 : Tok} {t_UP_0_1 : Tok} (l_UP_0 : K.lookup u_UP_0 = some ⟨.type "tuple", none, .seq #[.int (1) t_UP_0_0, .int (1) t_UP_0_1] n_UP_0, s_UP_0⟩)
  : ∃ fd : FuncData, (∀ (s : Shared) (v : Value), BindsTo s fd ⟨[v], []⟩ [("script", v)]) ∧ ∀ base : Heap, K.In base → base.Ns mainGlobals mg → FnOk l.prog w K mg base CX0 12 fa fd ["script"] (dSp K a6C) := by
 have e := hfa.symm.trans (PySem.W.mg_of X G a24)
 cases e
 have Z : Zs K mg := ⟨PySem.W.mg_none_of X G z_abs, PySem.W.mg_none_of X G z_all, PySem.W.mg_none_of X G z_dict, PySem.W.mg_none_of X G z_enumerate, PySem.W.mg_none_of X G z_int, PySem.W.mg_none_of X G z_len, PySem.W.mg_none_of X G z_list, PySem.W.mg_none_of X G z_max, PySem.W.mg_none_of X G z_min, PySem.W.mg_none_of X G z_range, PySem.W.mg_none_of X G z_set, PySem.W.mg_none_of X G z_sorted, PySem.W.mg_none_of X G z_sum, PySem.W.mg_none_of X G z_tuple, ⟨u_DOWN, PySem.W.mg_of X G g_DOWN, fun H => (a0N (xs := [.ref u_DOWN_0]) l_DOWN (by show 1 ≤ 1000; decide) (.cons rfl .nil) (a0h (a0N (xs := [.int (-1), .int (1)]) l_DOWN_0 (by show 2 ≤ 1000; decide) (.cons ⟨_, rfl⟩ (.cons ⟨_, rfl⟩ .nil)) (a0h a0i (a0h a0i a0M))) a0M))⟩, ⟨u_LESS_DOWN, PySem.W.mg_of X G g_LESS_DOWN, fun H => (a0N (xs := [.ref u_LESS_DOWN_0, .ref u_LESS_DOWN_1]) l_LESS_DOWN (by show 2 ≤ 1000; decide) (.cons rfl (.cons rfl .nil)) (a0h (a0N (xs := [.int (-1), .int (-1)]) l_LESS_DOWN_0 (by show 2 ≤ 1000; decide) (.cons ⟨_, rfl⟩ (.cons ⟨_, rfl⟩ .nil)) (a0h a0i (a0h a0i a0M))) (a0h (a0N (xs := [.int (0), .int (1)]) l_LESS_DOWN_1 (by show 2 ≤ 1000; decide) (.cons ⟨_, rfl⟩ (.cons ⟨_, rfl⟩ .nil)) (a0h a0i (a0h a0i a0M))) a0M)))⟩, ⟨u_LESS_ONE, PySem.W.mg_of X G g_LESS_ONE, fun H => (a0N (xs := [.ref u_LESS_ONE_0]) l_LESS_ONE (by show 1 ≤ 1000; decide) (.cons rfl .nil) (a0h (a0N (xs := [.int (0), .int (-1)]) l_LESS_ONE_0 (by show 2 ≤ 1000; decide) (.cons ⟨_, rfl⟩ (.cons ⟨_, rfl⟩ .nil)) (a0h a0i (a0h a0i a0M))) a0M))⟩, ⟨u_LESS_UP, PySem.W.mg_of X G g_LESS_UP, fun H => (a0N (xs := [.ref u_LESS_UP_0, .ref u_LESS_UP_1]) l_LESS_UP (by show 2 ≤ 1000; decide) (.cons rfl (.cons rfl .nil)) (a0h (a0N (xs := [.int (0), .int (1)]) l_LESS_UP_0 (by show 2 ≤ 1000; decide) (.cons ⟨_, rfl⟩ (.cons ⟨_, rfl⟩ .nil)) (a0h a0i (a0h a0i a0M))) (a0h (a0N (xs := [.int (1), .int (-1)]) l_LESS_UP_1 (by show 2 ≤ 1000; decide) (.cons ⟨_, rfl⟩ (.cons ⟨_, rfl⟩ .nil)) (a0h a0i (a0h a0i a0M))) a0M)))⟩, ⟨tk_MOST_LETTERS, PySem.W.mg_of X G g_MOST_LETTERS⟩, ⟨tk_MOST_STRANDS, PySem.W.mg_of X G g_MOST_STRANDS⟩, ⟨u_NOUGHT, PySem.W.mg_of X G g_NOUGHT, fun H => (a0N (xs := []) l_NOUGHT (by show 0 ≤ 1000; decide) .nil a0M)⟩, ⟨u_ONE, PySem.W.mg_of X G g_ONE, fun H => (a0N (xs := [.ref u_ONE_0]) l_ONE (by show 1 ≤ 1000; decide) (.cons rfl .nil) (a0h (a0N (xs := [.int (0), .int (1)]) l_ONE_0 (by show 2 ≤ 1000; decide) (.cons ⟨_, rfl⟩ (.cons ⟨_, rfl⟩ .nil)) (a0h a0i (a0h a0i a0M))) a0M))⟩, ⟨u_UP, PySem.W.mg_of X G g_UP, fun H => (a0N (xs := [.ref u_UP_0]) l_UP (by show 1 ≤ 1000; decide) (.cons rfl .nil) (a0h (a0N (xs := [.int (1), .int (1)]) l_UP_0 (by show 2 ≤ 1000; decide) (.cons ⟨_, rfl⟩ (.cons ⟨_, rfl⟩ .nil)) (a0h a0i (a0h a0i a0M))) a0M))⟩⟩
 have F1 := a1g (st := a2a) l1 c1 k1
 have b1 := F1.binds (ps := ["strands", "letter"]) fun _ _ _ _ _ _ us hl => a6r (P := fun us => bindArgs _ ⟨us, []⟩ = pure (List.zip _ us)) hl (fun _ _ => rfl)
 have F2 := a1g (st := a2x) l2 c2 k2
 have b2 := F2.binds (ps := ["strands", "word", "most"]) fun _ _ _ _ _ _ us hl => b8D (P := fun us => bindArgs _ ⟨us, []⟩ = pure (List.zip _ us)) hl (fun _ _ _ => rfl)
 have F3 := a1g (st := a2v) l3 c3 k3
 have b3 := F3.binds (ps := ["plait"]) fun _ _ _ _ _ _ us hl => a5m (P := fun us => bindArgs _ ⟨us, []⟩ = pure (List.zip _ us)) hl (fun _ => rfl)
 have F4 := a1g (st := a3C) l4 c4 k4
 have b4 := F4.binds (ps := ["plait"]) fun _ _ _ _ _ _ us hl => a5m (P := fun us => bindArgs _ ⟨us, []⟩ = pure (List.zip _ us)) hl (fun _ => rfl)
 have F5 := a1g (st := a2b) l5 c5 k5
 have b5 := F5.binds (ps := ["row", "at"]) fun _ _ _ _ _ _ us hl => a6r (P := fun us => bindArgs _ ⟨us, []⟩ = pure (List.zip _ us)) hl (fun _ _ => rfl)
 have F6 := a1g (st := a1G) l6 c6 k6
 have b6 := F6.binds (ps := ["order"]) fun _ _ _ _ _ _ us hl => a5m (P := fun us => bindArgs _ ⟨us, []⟩ = pure (List.zip _ us)) hl (fun _ => rfl)
 have F7 := a1g (st := a2u) l7 c7 k7
 have b7 := F7.binds (ps := ["plait"]) fun _ _ _ _ _ _ us hl => a5m (P := fun us => bindArgs _ ⟨us, []⟩ = pure (List.zip _ us)) hl (fun _ => rfl)
 have F8 := a1g (st := a0x) l8 c8 k8
 have b8 := F8.binds (ps := ["counts"]) fun _ _ _ _ _ _ us hl => a5m (P := fun us => bindArgs _ ⟨us, []⟩ = pure (List.zip _ us)) hl (fun _ => rfl)
 have F9 := a1g (st := a4J) l9 c9 k9
 have b9 := F9.binds (ps := ["one", "other"]) fun _ _ _ _ _ _ us hl => a6r (P := fun us => bindArgs _ ⟨us, []⟩ = pure (List.zip _ us)) hl (fun _ _ => rfl)
 have F10 := a1g (st := a1L) l10 c10 k10
 have b10 := F10.binds (ps := ["one", "other"]) fun _ _ _ _ _ _ us hl => a6r (P := fun us => bindArgs _ ⟨us, []⟩ = pure (List.zip _ us)) hl (fun _ _ => rfl)
 have F11 := a1g (st := a0O) l11 c11 k11
 have b11 := F11.binds (ps := ["row", "column"]) fun _ _ _ _ _ _ us hl => a6r (P := fun us => bindArgs _ ⟨us, []⟩ = pure (List.zip _ us)) hl (fun _ _ => rfl)
 have F12 := a1g (st := a1r) l12 c12 k12
 have b12 := F12.binds (ps := ["row", "letter"]) fun _ _ _ _ _ _ us hl => a6r (P := fun us => bindArgs _ ⟨us, []⟩ = pure (List.zip _ us)) hl (fun _ _ => rfl)
 have F13 := a1g (st := a1s) l13 c13 k13
 have b13 := F13.binds (ps := ["plait"]) fun _ _ _ _ _ _ us hl => a5m (P := fun us => bindArgs _ ⟨us, []⟩ = pure (List.zip _ us)) hl (fun _ => rfl)
 have F14 := a1g (st := a0R) l14 c14 k14
 have b14 := F14.binds (ps := ["rows"]) fun _ _ _ _ _ _ us hl => a5m (P := fun us => bindArgs _ ⟨us, []⟩ = pure (List.zip _ us)) hl (fun _ => rfl)
 have F15 := a1g (st := a1u) l15 c15 k15
 have b15 := F15.binds (ps := ["whole"]) fun _ _ _ _ _ _ us hl => a5m (P := fun us => bindArgs _ ⟨us, []⟩ = pure (List.zip _ us)) hl (fun _ => rfl)
 have F16 := a1g (st := a1i) l16 c16 k16
 have b16 := F16.binds (ps := ["plait"]) fun _ _ _ _ _ _ us hl => a5m (P := fun us => bindArgs _ ⟨us, []⟩ = pure (List.zip _ us)) hl (fun _ => rfl)
 have F17 := a1g (st := a0L) l17 c17 k17
 have b17 := F17.binds (ps := ["plait"]) fun _ _ _ _ _ _ us hl => a5m (P := fun us => bindArgs _ ⟨us, []⟩ = pure (List.zip _ us)) hl (fun _ => rfl)
 have F18 := a1g (st := a1d) l18 c18 k18
 have b18 := F18.binds (ps := ["script", "k"]) fun _ _ _ _ _ _ us hl => a6r (P := fun us => bindArgs _ ⟨us, []⟩ = pure (List.zip _ us)) hl (fun _ _ => rfl)
 have F19 := a1g (st := a1M) l19 c19 k19
 have b19 := F19.binds (ps := ["script", "k"]) fun _ _ _ _ _ _ us hl => a6r (P := fun us => bindArgs _ ⟨us, []⟩ = pure (List.zip _ us)) hl (fun _ _ => rfl)
 have F20 := a1g (st := a1w) l20 c20 k20
 have b20 := F20.binds (ps := ["state", "many"]) fun _ _ _ _ _ _ us hl => a6r (P := fun us => bindArgs _ ⟨us, []⟩ = pure (List.zip _ us)) hl (fun _ _ => rfl)
 have F21 := a1g (st := a1H) l21 c21 k21
 have b21 := F21.binds (ps := ["state", "strands", "count"]) fun _ _ _ _ _ _ us hl => b8D (P := fun us => bindArgs _ ⟨us, []⟩ = pure (List.zip _ us)) hl (fun _ _ _ => rfl)
 have F22 := a1g (st := a1N) l22 c22 k22
 have b22 := F22.binds (ps := ["state", "least", "most", "letters"]) fun _ _ _ _ _ _ us hl => c1W (P := fun us => bindArgs _ ⟨us, []⟩ = pure (List.zip _ us)) hl (fun _ _ _ _ => rfl)
 have F23 := a1g (st := a1v) l23 c23 k23
 have b23 := F23.binds (ps := ["places"]) fun _ _ _ _ _ _ us hl => a5m (P := fun us => bindArgs _ ⟨us, []⟩ = pure (List.zip _ us)) hl (fun _ => rfl)
 have F24 := a1g (st := a4I) l24 c24 k24
 refine ⟨PySem.W.fnOf "law" "law" (a0u a4I) (a0q a4I) (a0b a4I) .none kV24 dc24 pm24 an24 cd24 ct24, fun s v => .of_eq rfl, fun base _ _ => ?_⟩
 have D1 := a8N (P := l.prog) (w := w) (base := base) (n := 0) F1 (PySem.W.mg_of X G a1) b1 Z 
 have D2 := b2u (P := l.prog) (w := w) (base := base) (n := 1) F2 (PySem.W.mg_of X G a2) b2 Z (D1.mono (by decide))
 have D3 := b0j (P := l.prog) (w := w) (base := base) (n := 2) F3 (PySem.W.mg_of X G a3) b3 Z (D2.mono (by decide))
 have D4 := b3J (P := l.prog) (w := w) (base := base) (n := 3) F4 (PySem.W.mg_of X G a4) b4 Z (D3.mono (by decide))
 have D5 := a8O (P := l.prog) (w := w) (base := base) (n := 0) F5 (PySem.W.mg_of X G a5) b5 Z 
 have D6 := a8M (P := l.prog) (w := w) (base := base) (n := 0) F6 (PySem.W.mg_of X G a6) b6 Z 
 have D7 := b0i (P := l.prog) (w := w) (base := base) (n := 4) F7 (PySem.W.mg_of X G a7) b7 Z (D4.mono (by decide)) (D5.mono (by decide)) (D6.mono (by decide))
 have D8 := a4k (P := l.prog) (w := w) (base := base) (n := 0) F8 (PySem.W.mg_of X G a8) b8 Z 
 have D9 := b5P (P := l.prog) (w := w) (base := base) (n := 1) F9 (PySem.W.mg_of X G a9) b9 Z (D8.mono (by decide))
 have D10 := a7B (P := l.prog) (w := w) (base := base) (n := 1) F10 (PySem.W.mg_of X G a10) b10 Z (D8.mono (by decide))
 have D11 := a4M (P := l.prog) (w := w) (base := base) (n := 0) F11 (PySem.W.mg_of X G a11) b11 Z 
 have D12 := a6n (P := l.prog) (w := w) (base := base) (n := 2) F12 (PySem.W.mg_of X G a12) b12 Z (D9.mono (by decide)) (D10.mono (by decide))
 have D13 := b0h (P := l.prog) (w := w) (base := base) (n := 4) F13 (PySem.W.mg_of X G a13) b13 Z (D4.mono (by decide)) (D11.mono (by decide)) (D12.mono (by decide))
 have D14_0 := a5j (P := l.prog) (w := w) (base := base) (n := 2) F14 (PySem.W.mg_of X G a14) b14
 have D14_1 := a1e (P := l.prog) (w := w) (base := base) (n := 3) (k := 0) F14 (PySem.W.mg_of X G a14) b14 Z (D14_0.mono (by decide)) (D9.mono (by decide)) (D10.mono (by decide))
 have D14_2 := a1e (P := l.prog) (w := w) (base := base) (n := 4) (k := 1) F14 (PySem.W.mg_of X G a14) b14 Z (D14_1.mono (by decide)) (D9.mono (by decide)) (D10.mono (by decide))
 have D14_3 := a1e (P := l.prog) (w := w) (base := base) (n := 5) (k := 2) F14 (PySem.W.mg_of X G a14) b14 Z (D14_2.mono (by decide)) (D9.mono (by decide)) (D10.mono (by decide))
 have D14_4 := a1e (P := l.prog) (w := w) (base := base) (n := 6) (k := 3) F14 (PySem.W.mg_of X G a14) b14 Z (D14_3.mono (by decide)) (D9.mono (by decide)) (D10.mono (by decide))
 have D14_5 := a1e (P := l.prog) (w := w) (base := base) (n := 7) (k := 4) F14 (PySem.W.mg_of X G a14) b14 Z (D14_4.mono (by decide)) (D9.mono (by decide)) (D10.mono (by decide))
 have D14 := a1e (P := l.prog) (w := w) (base := base) (n := 8) (k := 5) F14 (PySem.W.mg_of X G a14) b14 Z (D14_5.mono (by decide)) (D9.mono (by decide)) (D10.mono (by decide))
 have D15 := a6o (P := l.prog) (w := w) (base := base) (n := 2) F15 (PySem.W.mg_of X G a15) b15 Z (D10.mono (by decide))
 have D16 := a7C (P := l.prog) (w := w) (base := base) (n := 9) F16 (PySem.W.mg_of X G a16) b16 Z (D13.mono (by decide)) (D9.mono (by decide)) (D11.mono (by decide)) (D10.mono (by decide)) (D15.mono (by decide)) (D14.mono (by decide))
 have D17 := a5k (P := l.prog) (w := w) (base := base) (n := 10) F17 (PySem.W.mg_of X G a17) b17 Z (D16.mono (by decide))
 have D18 := a5L (P := l.prog) (w := w) (base := base) (n := 0) F18 (PySem.W.mg_of X G a18) b18 Z 
 have D19 := a7D (P := l.prog) (w := w) (base := base) (n := 1) F19 (PySem.W.mg_of X G a19) b19 Z (D18.mono (by decide))
 have D20 := a6q (P := l.prog) (w := w) (base := base) (n := 0) F20 (PySem.W.mg_of X G a20) b20 Z 
 have D21 := a8P (P := l.prog) (w := w) (base := base) (n := 1) F21 (PySem.W.mg_of X G a21) b21 Z (D20.mono (by decide))
 have D22 := a7E (P := l.prog) (w := w) (base := base) (n := 2) F22 (PySem.W.mg_of X G a22) b22 Z (D20.mono (by decide)) (D21.mono (by decide))
 have D23 := a6p (P := l.prog) (w := w) (base := base) (n := 0) F23 (PySem.W.mg_of X G a23) b23 Z 
 exact c0E (n := 11) F24 Z (D22.mono (by decide)) (D19.mono (by decide)) (D16.mono (by decide)) (D23.mono (by decide)) (D7.mono (by decide)) (D17.mono (by decide))
end L2
namespace PySem.W.Fast
theorem tw15053882653954328491:True:=⟨⟩
theorem tw5495564086871580958:True:=⟨⟩
theorem tw276908783239019186:True:=⟨⟩
theorem tw6462848938355374383:True:=⟨⟩
theorem tw16144298535359600944:True:=⟨⟩
theorem tw16668697699104432849:True:=⟨⟩
theorem tw12684884451315582291:True:=⟨⟩
theorem tw11313381853092376799:True:=⟨⟩
theorem tw16729263230554205953:True:=⟨⟩
theorem tw14521858426905356148:True:=⟨⟩
theorem tw17536146733112210860:True:=⟨⟩
theorem tw5995775187617969927:True:=⟨⟩
theorem tw18310001937311498089:True:=⟨⟩
theorem tw8314062084077491583:True:=⟨⟩
theorem tw842028441348372831:True:=⟨⟩
theorem tw3948541703663602411:True:=⟨⟩
theorem tw9234666399846129478:True:=⟨⟩
theorem tw11386821724001592272:True:=⟨⟩
theorem tw16160725274724681010:True:=⟨⟩
theorem tw18385418786148620623:True:=⟨⟩
theorem tw7181346861533664012:True:=⟨⟩
theorem tw14981721620066130005:True:=⟨⟩
theorem tw17149647109099877503:True:=⟨⟩
theorem tw15247062693298178675:True:=⟨⟩
theorem tw4284063809475207174:True:=⟨⟩
theorem tw1621318556857748798:True:=⟨⟩
theorem tw7338472885613236267:True:=⟨⟩
theorem tw7529864107632057206:True:=⟨⟩
theorem tw1876208639877468666:True:=⟨⟩
theorem tw10380572533359732704:True:=⟨⟩
theorem tw5762504529382527059:True:=⟨⟩
theorem tw11612864448417201243:True:=⟨⟩
theorem tw5666027244436391498:True:=⟨⟩
theorem tw513952915793583830:True:=⟨⟩
theorem tw4821101922166690781:True:=⟨⟩
theorem tw1416717968476716070:True:=⟨⟩
theorem tw5366414318736247255:True:=⟨⟩
theorem tw13285408083506336143:True:=⟨⟩
theorem tw10362545007933823533:True:=⟨⟩
theorem tw11784305857860479213:True:=⟨⟩
theorem tw16553208620437913212:True:=⟨⟩
theorem tw1939770226522862037:True:=⟨⟩
theorem tw5863072097370958722:True:=⟨⟩
theorem tw13289260987174260111:True:=⟨⟩
theorem tw5768345410713712501:True:=⟨⟩
theorem tw7144330319185094226:True:=⟨⟩
theorem tw15129188202132658767:True:=⟨⟩
theorem tw13125821728049223101:True:=⟨⟩
theorem tw7146239623573520201:True:=⟨⟩
theorem tw481854402885129859:True:=⟨⟩
theorem tw12563534137213185843:True:=⟨⟩
theorem tw13380030345742525309:True:=⟨⟩
theorem tw8646091037309423964:True:=⟨⟩
theorem tw11477152430820481477:True:=⟨⟩
theorem tw10538668885283376130:True:=⟨⟩
theorem tw5144804538502009639:True:=⟨⟩
theorem tw6165496477436473960:True:=⟨⟩
theorem tw7492385906332520797:True:=⟨⟩
theorem tw8449906307617852790:True:=⟨⟩
theorem tw2701557738169433715:True:=⟨⟩
theorem tw6694143951380145726:True:=⟨⟩
theorem tw3653381321424828653:True:=⟨⟩
theorem tw4316351648576786840:True:=⟨⟩
theorem tw2532944955024311160:True:=⟨⟩
theorem tw5105955282426008745:True:=⟨⟩
theorem tw7887806444644970232:True:=⟨⟩
theorem tw2899443988158987542:True:=⟨⟩
theorem tw1479741133499462871:True:=⟨⟩
theorem tw13388782770617416045:True:=⟨⟩
theorem tw4272359424888008618:True:=⟨⟩
theorem tw3254215124714956535:True:=⟨⟩
theorem tw2950479194539560198:True:=⟨⟩
theorem tw16237966851708839860:True:=⟨⟩
theorem tw3224528000815720741:True:=⟨⟩
theorem tw3936333866046653474:True:=⟨⟩
theorem tw5079941512912810649:True:=⟨⟩
theorem tw8640219163506458374:True:=⟨⟩
theorem tw552604016780097095:True:=⟨⟩
theorem tw283059061822079162:True:=⟨⟩
theorem tw472590121074322934:True:=⟨⟩
theorem tw846257620489239145:True:=⟨⟩
theorem tw13926295018103547996:True:=⟨⟩
theorem tw2300817351118448097:True:=⟨⟩
theorem tw15857100675492429364:True:=⟨⟩
theorem tw11669010276332852370:True:=⟨⟩
theorem tw16307431261057407465:True:=⟨⟩
theorem tw13310411098557590230:True:=⟨⟩
theorem tw1547910166494958247:True:=⟨⟩
theorem tw1980280992429916436:True:=⟨⟩
theorem tw14305770188109202151:True:=⟨⟩
theorem tw2660734958702871634:True:=⟨⟩
theorem tw2944781768050384698:True:=⟨⟩
theorem tw673368665360752250:True:=⟨⟩
theorem tw4974905741667510142:True:=⟨⟩
theorem tw16800223060589130430:True:=⟨⟩
theorem tw10169288766903454008:True:=⟨⟩
theorem tw2804276148418219545:True:=⟨⟩
theorem tw15514011435959083358:True:=⟨⟩
theorem tw4617209913292622535:True:=⟨⟩
theorem tw6036035902977880095:True:=⟨⟩
theorem tw17790175629699797124:True:=⟨⟩
theorem tw7590586747001577135:True:=⟨⟩
theorem tw4639744870769700474:True:=⟨⟩
theorem tw9180051991253742356:True:=⟨⟩
theorem tw13730128956078275721:True:=⟨⟩
theorem tw14727050734163266707:True:=⟨⟩
theorem tw7523862796015701140:True:=⟨⟩
theorem tw11593772568806734270:True:=⟨⟩
theorem tw3854622407059746049:True:=⟨⟩
theorem tw466120788959591681:True:=⟨⟩
theorem tw1002347073732588136:True:=⟨⟩
theorem tw18291321602531015484:True:=⟨⟩
theorem tw16450203637962931127:True:=⟨⟩
theorem tw14188143894369960323:True:=⟨⟩
theorem tw1014312584244977154:True:=⟨⟩
theorem tw2462756637302672372:True:=⟨⟩
theorem tw2289025649765914282:True:=⟨⟩
theorem tw4123642611414622436:True:=⟨⟩
theorem tw16763338662206769927:True:=⟨⟩
theorem tw9318005896939793881:True:=⟨⟩
theorem tw8838087472688986573:True:=⟨⟩
theorem tw9356907120550752776:True:=⟨⟩
theorem tw6414988703579760974:True:=⟨⟩
theorem tw3772599576405510783:True:=⟨⟩
theorem tw10246576927911903598:True:=⟨⟩
theorem tw6989875101165781158:True:=⟨⟩
theorem tw6012704572986413887:True:=⟨⟩
theorem tw11752926336926867576:True:=⟨⟩
theorem tw12691268415104186332:True:=⟨⟩
theorem tw11702866016588599196:True:=⟨⟩
theorem tw15779300741421531872:True:=⟨⟩
theorem tw2379509740701988249:True:=⟨⟩
theorem tw3307077059955647337:True:=⟨⟩
theorem tw18034789687334876698:True:=⟨⟩
theorem tw1953896567918595080:True:=⟨⟩
theorem tw13007130846312776138:True:=⟨⟩
theorem tw1566085047241195483:True:=⟨⟩
theorem tw5392479530703079821:True:=⟨⟩
theorem tw11519600500539954725:True:=⟨⟩
theorem tw10526780155317972453:True:=⟨⟩
theorem tw9541483439695529666:True:=⟨⟩
theorem tw13755099007518190182:True:=⟨⟩
theorem tw8001783071399063293:True:=⟨⟩
theorem tw2471572092505482823:True:=⟨⟩
theorem tw17546615986264727152:True:=⟨⟩
theorem tw13422026788156950678:True:=⟨⟩
theorem tw16281927529175711818:True:=⟨⟩
theorem tw10760633075728366853:True:=⟨⟩
theorem tw15232809256420989751:True:=⟨⟩
theorem tw9330782882320271314:True:=⟨⟩
theorem tw13904316306199299253:True:=⟨⟩
theorem tw8834850927763263420:True:=⟨⟩
theorem tw900557587313735619:True:=⟨⟩
theorem tw13292776237107441881:True:=⟨⟩
theorem tw7805889891091872173:True:=⟨⟩
theorem tw15295167921338204678:True:=⟨⟩
theorem tw15427986942610237008:True:=⟨⟩
theorem tw17277370299463392590:True:=⟨⟩
theorem tw3481451711817454413:True:=⟨⟩
theorem tw15269215582621769500:True:=⟨⟩
theorem tw5336664157417977316:True:=⟨⟩
theorem tw17573056849672220569:True:=⟨⟩
theorem tw7383024123104693355:True:=⟨⟩
theorem tw4792201740297046403:True:=⟨⟩
theorem tw16759355755792614797:True:=⟨⟩
theorem tw12393600650362108416:True:=⟨⟩
theorem tw17272423470495175322:True:=⟨⟩
theorem tw14806033034522727799:True:=⟨⟩
theorem tw16351685364911789888:True:=⟨⟩
theorem tw15432725985700940410:True:=⟨⟩
theorem tw5050093377534770228:True:=⟨⟩
theorem tw9933130031491896168:True:=⟨⟩
theorem tw245979254876054469:True:=⟨⟩
theorem tw17946457314512092159:True:=⟨⟩
theorem tw7048956454170218694:True:=⟨⟩
theorem tw12901178903581368599:True:=⟨⟩
theorem tw11459375212107160148:True:=⟨⟩
theorem tw16068392041155792074:True:=⟨⟩
theorem tw10278466941311035583:True:=⟨⟩
theorem tw7217347090818800521:True:=⟨⟩
theorem tw17561604039614760606:True:=⟨⟩
theorem tw15165876625484451751:True:=⟨⟩
theorem tw7456809084776305689:True:=⟨⟩
theorem tw8650124599708302163:True:=⟨⟩
theorem tw6641014983819192185:True:=⟨⟩
theorem tw17671695313950387310:True:=⟨⟩
theorem tw11708137995726802639:True:=⟨⟩
theorem tw4316184773552160242:True:=⟨⟩
theorem tw8981242721696379698:True:=⟨⟩
theorem tw14954623874622908151:True:=⟨⟩
theorem tw5200623363576805252:True:=⟨⟩
theorem tw3423088292260068728:True:=⟨⟩
theorem tw17221172184453460308:True:=⟨⟩
theorem tw9374663038230748782:True:=⟨⟩
theorem tw12768684612379328218:True:=⟨⟩
theorem tw1531476032043357937:True:=⟨⟩
theorem tw1743130132427625762:True:=⟨⟩
theorem tw5377318873005085364:True:=⟨⟩
theorem tw2720690920247069537:True:=⟨⟩
theorem tw5034432626141661017:True:=⟨⟩
theorem tw16705053507277955057:True:=⟨⟩
theorem tw13876714407753846129:True:=⟨⟩
theorem tw6220885304891540764:True:=⟨⟩
theorem tw9014906067553488305:True:=⟨⟩
theorem tw3684354931038644677:True:=⟨⟩
theorem tw161240746241376344:True:=⟨⟩
theorem tw11440132685134870679:True:=⟨⟩
theorem tw4335804253125464900:True:=⟨⟩
theorem tw4458796705612379875:True:=⟨⟩
theorem tw14892450106183045642:True:=⟨⟩
theorem tw17309904703307068843:True:=⟨⟩
theorem tw10180015012825704361:True:=⟨⟩
theorem tw9206795309867846456:True:=⟨⟩
theorem tw11527056297810127283:True:=⟨⟩
theorem tw9715358013618868346:True:=⟨⟩
theorem tw14607591050175157508:True:=⟨⟩
theorem tw8401844170886805403:True:=⟨⟩
theorem tw4462847380977142873:True:=⟨⟩
end PySem.W.Fast
open PySem PySem.W PyProof.Rows
set_option maxRecDepth 100000 in
set_option maxHeartbeats 0 in
theorem PySem.Challenge.cw_loopwright_k89_whole_what_sums_are_like_holds : PySem.Challenge.rw_loopwright_k89_whole_what_sums_are_like.Holds := by
 w_on; o_law; k_head; (case hw => w_witness2)
 k_fill
 refine L2.b5U (l := PySem.Challenge.rw_loopwright_k89_whole_what_sums_are_like) (k := 12) (sp := L2.a6C) rfl rfl ⟨rfl, by decide, by decide⟩ (fun w h Y => PySem.W.kIn_of Y) L2.b2z ?F
 case F =>
  intro w mg fa h KX G hmg
  refine' L2.c1j KX G hmg ?a1 ?l1 ?c1 ?k1 ?a2 ?l2 ?c2 ?k2 ?a3 ?l3 ?c3 ?k3 ?a4 ?l4 ?c4 ?k4 ?a5 ?l5 ?c5 ?k5 ?a6 ?l6 ?c6 ?k6 ?a7 ?l7 ?c7 ?k7 ?a8 ?l8 ?c8 ?k8 ?a9 ?l9 ?c9 ?k9 ?a10 ?l10 ?c10 ?k10 ?a11 ?l11 ?c11 ?k11 ?a12 ?l12 ?c12 ?k12 ?a13 ?l13 ?c13 ?k13 ?a14 ?l14 ?c14 ?k14 ?a15 ?l15 ?c15 ?k15 ?a16 ?l16 ?c16 ?k16 ?a17 ?l17 ?c17 ?k17 ?a18 ?l18 ?c18 ?k18 ?a19 ?l19 ?c19 ?k19 ?a20 ?l20 ?c20 ?k20 ?a21 ?l21 ?c21 ?k21 ?a22 ?l22 ?c22 ?k22 ?a23 ?l23 ?c23 ?k23 ?a24 ?l24 ?c24 ?k24 ?z_abs ?z_all ?z_dict ?z_enumerate ?z_int ?z_len ?z_list ?z_max ?z_min ?z_range ?z_set ?z_sorted ?z_sum ?z_tuple ?g_DOWN ?l_DOWN ?l_DOWN_0 ?g_LESS_DOWN ?l_LESS_DOWN ?l_LESS_DOWN_0 ?l_LESS_DOWN_1 ?g_LESS_ONE ?l_LESS_ONE ?l_LESS_ONE_0 ?g_LESS_UP ?l_LESS_UP ?l_LESS_UP_0 ?l_LESS_UP_1 ?g_MOST_LETTERS ?g_MOST_STRANDS ?g_NOUGHT ?l_NOUGHT ?g_ONE ?l_ONE ?l_ONE_0 ?g_UP ?l_UP ?l_UP_0
  (case a1 => k_is)
  (case l1 => k_is)
  (case c1 => k_is)
  (case k1 => k_is)
  (case a2 => k_is)
  (case l2 => k_is)
  (case c2 => k_is)
  (case k2 => k_is)
  (case a3 => k_is)
  (case l3 => k_is)
  (case c3 => k_is)
  (case k3 => k_is)
  (case a4 => k_is)
  (case l4 => k_is)
  (case c4 => k_is)
  (case k4 => k_is)
  (case a5 => k_is)
  (case l5 => k_is)
  (case c5 => k_is)
  (case k5 => k_is)
  (case a6 => k_is)
  (case l6 => k_is)
  (case c6 => k_is)
  (case k6 => k_is)
  (case a7 => k_is)
  (case l7 => k_is)
  (case c7 => k_is)
  (case k7 => k_is)
  (case a8 => k_is)
  (case l8 => k_is)
  (case c8 => k_is)
  (case k8 => k_is)
  (case a9 => k_is)
  (case l9 => k_is)
  (case c9 => k_is)
  (case k9 => k_is)
  (case a10 => k_is)
  (case l10 => k_is)
  (case c10 => k_is)
  (case k10 => k_is)
  (case a11 => k_is)
  (case l11 => k_is)
  (case c11 => k_is)
  (case k11 => k_is)
  (case a12 => k_is)
  (case l12 => k_is)
  (case c12 => k_is)
  (case k12 => k_is)
  (case a13 => k_is)
  (case l13 => k_is)
  (case c13 => k_is)
  (case k13 => k_is)
  (case a14 => k_is)
  (case l14 => k_is)
  (case c14 => k_is)
  (case k14 => k_is)
  (case a15 => k_is)
  (case l15 => k_is)
  (case c15 => k_is)
  (case k15 => k_is)
  (case a16 => k_is)
  (case l16 => k_is)
  (case c16 => k_is)
  (case k16 => k_is)
  (case a17 => k_is)
  (case l17 => k_is)
  (case c17 => k_is)
  (case k17 => k_is)
  (case a18 => k_is)
  (case l18 => k_is)
  (case c18 => k_is)
  (case k18 => k_is)
  (case a19 => k_is)
  (case l19 => k_is)
  (case c19 => k_is)
  (case k19 => k_is)
  (case a20 => k_is)
  (case l20 => k_is)
  (case c20 => k_is)
  (case k20 => k_is)
  (case a21 => k_is)
  (case l21 => k_is)
  (case c21 => k_is)
  (case k21 => k_is)
  (case a22 => k_is)
  (case l22 => k_is)
  (case c22 => k_is)
  (case k22 => k_is)
  (case a23 => k_is)
  (case l23 => k_is)
  (case c23 => k_is)
  (case k23 => k_is)
  (case a24 => k_is)
  (case l24 => k_is)
  (case c24 => k_is)
  (case k24 => k_is)
  (case z_abs => k_is)
  (case z_all => k_is)
  (case z_dict => k_is)
  (case z_enumerate => k_is)
  (case z_int => k_is)
  (case z_len => k_is)
  (case z_list => k_is)
  (case z_max => k_is)
  (case z_min => k_is)
  (case z_range => k_is)
  (case z_set => k_is)
  (case z_sorted => k_is)
  (case z_sum => k_is)
  (case z_tuple => k_is)
  (case g_DOWN => k_is)
  (case l_DOWN => k_is)
  (case l_DOWN_0 => k_is)
  (case g_LESS_DOWN => k_is)
  (case l_LESS_DOWN => k_is)
  (case l_LESS_DOWN_0 => k_is)
  (case l_LESS_DOWN_1 => k_is)
  (case g_LESS_ONE => k_is)
  (case l_LESS_ONE => k_is)
  (case l_LESS_ONE_0 => k_is)
  (case g_LESS_UP => k_is)
  (case l_LESS_UP => k_is)
  (case l_LESS_UP_0 => k_is)
  (case l_LESS_UP_1 => k_is)
  (case g_MOST_LETTERS => k_is)
  (case g_MOST_STRANDS => k_is)
  (case g_NOUGHT => k_is)
  (case l_NOUGHT => k_is)
  (case g_ONE => k_is)
  (case l_ONE => k_is)
  (case l_ONE_0 => k_is)
  (case g_UP => k_is)
  (case l_UP => k_is)
  (case l_UP_0 => k_is)
