import PyProof.Rows.All
import Wide.All
import OpenK.AllK
import Wide.FinOn
import Lean
import PyProof.EqAt
import PyProof.EqKinds
import PyProof.TupleCall
import PySem.Challenge.RW_loopwright_k64_whole_moves_keep_how_many
set_option Elab.async false
set_option linter.all false
set_option maxRecDepth 100000
namespace L2
open PySem PySem.Spec PyProof.Rows
noncomputable abbrev Key := Sum Int Str
noncomputable def b1I : Key → Value → Bool
 | .inl k, v => Value.isInt k v
 | .inr x, v => Value.isStrOf x v
noncomputable def keyH (w : World) : Key → Int
 | .inl k => hashInt k
 | .inr x => hashStr w x
theorem a1m : ∀ {k : Key} {v : Value}, b1I k v = true → (∃ i t, k = Sum.inl i ∧ v = Value.int i t) ∨ (∃ x t, k = Sum.inr x ∧ v = Value.str x t)
 | .inl i, v, h => by
   obtain ⟨t, e⟩ := Value.isInt_shape (k := i) (v := v) h
   exact .inl ⟨i, t, rfl, e⟩
 | .inr x, v, h => by
   obtain ⟨t, e⟩ := Value.isStrOf_shape (x := x) (v := v) h
   exact .inr ⟨x, t, rfl, e⟩
theorem b3b (i : Int) (t : Tok) : b1I (.inl i) (.int i t) = true := by simp [b1I, Value.isInt]
theorem b3a (x : Str) (t : Tok) : b1I (.inr x) (.str x t) = true := by simp [b1I, Value.isStrOf]
theorem b8u (a b : Int) : decide ((Sum.inl a : Key) = Sum.inl b) = (a == b) := by
 by_cases e : a = b
 ·subst e; simp
 ·have h : ¬ (Sum.inl a : Key) = Sum.inl b := fun q => e (Sum.inl.inj q)
  rw [decide_eq_false h]
  exact (beq_eq_false_iff_ne.mpr e).symm
theorem b8r (a b : Str) : decide ((Sum.inr a : Key) = Sum.inr b) = decide (a = b) := by
 by_cases e : a = b
 ·subst e; simp
 ·have h : ¬ (Sum.inr a : Key) = Sum.inr b := fun q => e (Sum.inr.inj q)
  rw [decide_eq_false h, decide_eq_false e]
theorem b8t (a : Int) (b : Str) : decide ((Sum.inl a : Key) = Sum.inr b) = false := decide_eq_false (fun q => nomatch q)
theorem b8s (a : Str) (b : Int) : decide ((Sum.inr a : Key) = Sum.inl b) = false := decide_eq_false (fun q => nomatch q)
noncomputable def a2i (prog : Program) (w : World) : PySem.KeyKind prog w Key where
 is := b1I
 hash := keyH w
 inj := fun v a b ha hb => by
  rcases a1m ha with ⟨i, t, rfl, rfl⟩ | ⟨x, t, rfl, rfl⟩
  ·rcases a1m hb with ⟨j, u, rfl, e⟩ | ⟨y, u, rfl, e⟩
   ·injection e with e1 _; rw [e1]
   ·exact nomatch e
  ·rcases a1m hb with ⟨j, u, rfl, e⟩ | ⟨y, u, rfl, e⟩
   ·exact nomatch e
   ·injection e with e1 _; rw [e1]
 byValue := fun k v h => by
  rcases a1m h with ⟨i, t, rfl, rfl⟩ | ⟨x, t, rfl, rfl⟩ <;> rfl
 pyHash := fun hv h => by
  rcases a1m hv with ⟨i, t, rfl, rfl⟩ | ⟨x, t, rfl, rfl⟩
  ·exact wpAny_pyHash_int h
  ·exact wpAny_pyHash_str h
 eqBool := fun hu hv h => by
  rcases a1m hu with ⟨i, t, rfl, rfl⟩ | ⟨x, t, rfl, rfl⟩
  ·rcases a1m hv with ⟨j, u, rfl, rfl⟩ | ⟨y, u, rfl, rfl⟩
   ·rw [b8u] at h; exact wpAny_eqBool_int h
   ·rw [b8t] at h; exact SeqAt.EqAt.int_str i t y u _ _ _ _ h
  ·rcases a1m hv with ⟨j, u, rfl, rfl⟩ | ⟨y, u, rfl, rfl⟩
   ·rw [b8s] at h; exact SeqAt.EqAt.str_int x t j u _ _ _ _ h
   ·rw [b8r] at h; exact wpAny_eqBool_str h
 «strs» := fun k x t v h => by
  rcases a1m h with ⟨i, u, rfl, e⟩ | ⟨y, u, rfl, e⟩
  ·exact nomatch e
  ·injection e with e1 _
   subst e1
   cases v <;> rfl
theorem a9Z (prog : Program) (w : World) (i : Int) (t : Tok) : (a2i prog w).is (.inl i) (.int i t) = true := b3b i t
theorem a9Y (prog : Program) (w : World) (x : Str) (t : Tok) : (a2i prog w).is (.inr x) (.str x t) = true := b3a x t
inductive V where
 | non | bl (b : Bool) | int (i : Int) | str (x : Str) | byt (b : Array UInt8) | flt (b : UInt64) | ref (a : Addr) | ty (n : String)
 deriving DecidableEq
noncomputable def RelV : V → Value → Prop
 | .non, u => u = Value.none
 | .bl b, u => u = Value.bool b
 | .int i, u => ∃ t, u = Value.int i t
 | .str x, u => ∃ t, u = Value.str x t
 | .byt b, u => ∃ t, u = Value.bytes b t
 | .flt b, u => ∃ t, u = Value.float b t
 | .ref a, u => u = Value.ref a
 | .ty n, u => u = Value.type n
noncomputable abbrev Vals : List V → List Value → Prop := Paired RelV
theorem Vals.length {xs : List V} {us : List Value} (r : Vals xs us) : xs.length = us.length := Paired.length r
theorem Vals.get : ∀ {xs : List V} {us : List Value} {i : Nat} {x : V}, Vals xs us → xs[i]? = some x → ∃ u, us[i]? = some u ∧ RelV x u
 | _, _, _, _, .nil, e => by simp at e
 | _, _, 0, _, .cons r _, e => by simp at e; subst e; exact ⟨_, rfl, r⟩
 | _, _, i + 1, x, .cons _ t, e => by
   obtain ⟨u, h1, h2⟩ := Vals.get (i := i) (x := x) t (by simpa using e)
   exact ⟨u, by simpa using h1, h2⟩
theorem Vals.set {x : V} {u : Value} (r : RelV x u) : ∀ {xs : List V} {us : List Value} (i : Nat), Vals xs us → Vals (xs.set i x) (us.set i u)
 | _, _, _, .nil => .nil
 | _, _, 0, .cons _ t => .cons r t
 | _, _, i + 1, .cons q t => .cons q (Vals.set r i t)
theorem Vals.append : ∀ {xs ys : List V} {us ws : List Value}, Vals xs us → Vals ys ws → Vals (xs ++ ys) (us ++ ws)
 | _, _, _, _, .nil, s => s
 | _, _, _, _, .cons r t, s => .cons r (Vals.append t s)
theorem Vals.take : ∀ {xs : List V} {us : List Value} (n : Nat), Vals xs us → Vals (xs.take n) (us.take n)
 | _, _, 0, _ => .nil
 | _, _, _ + 1, .nil => .nil
 | _, _, n + 1, .cons r t => .cons r (Vals.take n t)
theorem Vals.drop : ∀ {xs : List V} {us : List Value} (n : Nat), Vals xs us → Vals (xs.drop n) (us.drop n)
 | _, _, 0, r => r
 | _, _, _ + 1, .nil => .nil
 | _, _, n + 1, .cons _ t => Vals.drop n t
noncomputable def RelO : Option V → Option Value → Prop
 | some v, some u => RelV v u
 | none, none => True
 | _, _ => False
noncomputable def KV {κ : Type} : List (κ × V) → List (κ × Value) → Prop := Paired fun (p : κ × V) (q : κ × Value) => p.1 = q.1 ∧ RelV p.2 q.2
noncomputable def kV : Key → V
 | .inl i => .int i
 | .inr x => .str x
inductive HO where
 /-- a list -/
 | lst (xs : List V)
 /-- a tuple (never changes) -/
 | tup (xs : List V)
 /-- a dict whose keys are ints and texts; one whose keys are tuples of ints and texts (the empty one is both) -/
 | dK (kvs : List (Key × V)) | dT (kvs : List (List Key × V))
 /-- a set of ints: its members, its size -/
 | set (S : Int → Bool) (n : Nat)
 /-- an instance of the class at C, its dict at dx, its attributes -/
 | ins (C dx : Addr) (fs : List (Str × V))
 /-- the dict of the instance at x -/
 | own (x : Addr)
 /-- the dict of an exception -/
 | xd (fs : List (Str × V))
 /-- a bound method, f of x -/
 | met (f x : Addr)
 /-- a range object lo, lo + 1, .. below hi -/
 | rng (lo hi : Int)
 /-- a thing that is known to the object (the script; a dict while a loop walks it): read, never written while it is so -/
 | frz (o : Obj) (u : HO)
 /-- a code object's table -/
 | tbl (ps : Array Value)
 /-- any other thing, by what is true of its one object (a def of one's own: SetO a S n := HO.ext fun h => ..) -/
 | ext (φ : Heap → Prop)
noncomputable abbrev Hp := Addr → Option HO
noncomputable def a3z (h : Heap) (a : Addr) (items : Array Value) : Prop := ∃ o, h.get? a = some o ∧ o.cls = .type "tuple" ∧ o.dict = none ∧ ∃ n, o.data = .seq items n
theorem a3z.t {h : Heap} {a : Addr} {items : Array Value} (x : a3z h a items) : IsTup h a items := let ⟨o, e, c, _, n, d⟩ := x; ⟨o, e, c, n, d⟩
theorem a3z.lt {h : Heap} {a : Addr} {items : Array Value} (x : a3z h a items) : a < h.objs.size := x.t.lt
theorem a3z.new (h : Heap) (items : Array Value) : a3z (h.push { cls := .type "tuple", data := .seq items }) h.objs.size items := ⟨_, Heap.get?_push_size _ rfl, rfl, rfl, 0, rfl⟩
noncomputable def upd (H : Hp) (a : Addr) (o : HO) : Hp := fun b => if b = a then some o else H b
theorem a0O {H : Hp} {a : Addr} {o : HO} : upd H a o a = some o := by unfold upd; rw [if_pos rfl]
theorem a0y {H : Hp} {a b : Addr} {o : HO} (h : b ≠ a) : upd H a o b = H b := by unfold upd; rw [if_neg h]
theorem b9x {H : Hp} {a b : Addr} {o u : HO} (h : H a = some o) (h' : H b = some u) (d : o ≠ u) : a ≠ b := by
 intro e; subst e; rw [h] at h'; exact d (Option.some.inj h')
theorem a0r {H : Hp} {a b : Addr} {o : HO} (h : H a = some o) (h' : H b = none) : a ≠ b := by
 intro e; subst e; rw [h] at h'; cases h'
section
variable (P : Program) (w : World)
noncomputable def a2J (H : Hp) (h : Heap) (a : Addr) : HO → Prop
 | .lst xs => xs.length ≤ sizeLine ∧ ∃ (its : List Value) (n : Nat), Vals xs its ∧ h.get? a = some { cls := .type "list", data := .seq its.toArray n }
 | .tup xs => xs.length ≤ sizeLine ∧ ∃ its : List Value, Vals xs its ∧ a3z h a its.toArray
 | .dK kvs => kvs.length ≤ sizeLine ∧ (a == sysModules) = false ∧ ∃ vs, KV kvs vs ∧ h.DictOf (a2i P w) a vs
 | .dT kvs => kvs.length ≤ sizeLine ∧ (a == sysModules) = false ∧ ∃ xs : List (List Key × Addr × Value),
   Paired (fun (p : List Key × V) (q : List Key × Addr × Value) => p.1 = q.1 ∧ H q.2.1 = some (.tup (p.1.map kV)) ∧ RelV p.2 q.2.2) kvs xs ∧
   ∃ o es ep, h.get? a = some o ∧ o.ExactDict ∧ o.data = .dict es ep ∧ es.toList = xs.map (entryOfKey (tupleKind (a2i P w))) ∧ (xs.map (·.1)).Nodup
 | .set S n => h.SetOf (intKind P w) a S n
 | .ins C dx fs => H dx = some (.own a) ∧ fs.length ≤ 1000 ∧ dx ≠ a ∧ h.get? a = some (PySem.W.instObj C dx) ∧
   ∃ mA, h.Ns1 dx mA ∧ (∀ f, RelO (fs.lookup f) (mA f)) ∧ PySem.Within mA (fs.map (·.1))
 | .own _ => ∃ o, h.get? a = some o
 | .xd fs => ∃ mA, h.Ns1 a mA ∧ ∀ f, RelO (fs.lookup f) (mA f)
 | .rng lo hi => ∃ t u v, h.get? a = some { cls := .type "range", data := .fields #[.int lo t, .int hi u, .int 1 v] }
 | .frz o u => h.get? a = some o ∧ a2J H h a u
 | .tbl ps => h.get? a = some { cls := .none, data := .fields ps }
 | .met f x => h.get? a = some (PySem.W.methodObj (.ref f) (.ref x))
 | .ext φ => φ h ∧ (∃ o, h.get? a = some o) ∧ ∀ h1 h2 : Heap, φ h1 → (∀ o, h1.get? a = some o → h2.get? a = some o) → φ h2
noncomputable def HOk (H : Hp) (h : Heap) : Prop := ∀ a o, H a = some o → a2J P w H h a o
end
section
variable {P : Program} {w : World} {H H' : Hp} {h h' : Heap} {a : Addr} {o : HO}
theorem a2J.lt (x : a2J P w H h a o) : a < h.objs.size := by
 cases o with
 | lst xs => obtain ⟨_, _, _, _, e⟩ := x; exact Heap.lt_size e
 | tup xs => obtain ⟨_, _, _, p⟩ := x; exact p.lt
 | dK kvs => obtain ⟨_, _, _, _, o, _, _, e, _⟩ := x; exact Heap.lt_size e
 | dT kvs => obtain ⟨_, _, _, _, o, _, _, e, _⟩ := x; exact Heap.lt_size e
 | set S n => obtain ⟨o, _, _, _, e, _⟩ := x; exact Heap.lt_size e
 | ins C dx fs => obtain ⟨_, _, _, e, _⟩ := x; exact Heap.lt_size e
 | own y => obtain ⟨_, e⟩ := x; exact Heap.lt_size e
 | xd fs => obtain ⟨_, ⟨_, _, _, e, _⟩, _⟩ := x; exact Heap.lt_size e
 | rng lo hi => obtain ⟨_, _, _, e⟩ := x; exact Heap.lt_size e
 | frz ob u => obtain ⟨e, _⟩ := x; exact Heap.lt_size e
 | tbl ps => exact Heap.lt_size (show h.get? a = some _ from x)
 | met f y => exact Heap.lt_size (show h.get? a = some _ from x)
 | ext φ => obtain ⟨_, ⟨_, e⟩, _⟩ := x; exact Heap.lt_size e
theorem Paired.mapP {α β : Type} {F G : α → β → Prop} : ∀ {l₁ : List α} {l₂ : List β}, Paired F l₁ l₂ → (∀ a b, F a b → G a b) → Paired G l₁ l₂
 | _, _, .nil, _ => .nil
 | _, _, .cons r t, f => .cons (f _ _ r) (Paired.mapP t f)
theorem a2J.stay (x : a2J P w H h a o) (k : ∀ b u, (b = a ∨ H b = some (.own a)) → h.get? b = some u → h'.get? b = some u)
  (ho : ∀ b, H b = some (.own a) → H' b = some (.own a)) (ht : ∀ b xs, H b = some (.tup xs) → H' b = some (.tup xs)) : a2J P w H' h' a o := by
 induction o with
 | lst xs => obtain ⟨z, its, n, r, e⟩ := x; exact ⟨z, its, n, r, k _ _ (.inl rfl) e⟩
 | tup xs => obtain ⟨z, its, r, ob, e, c⟩ := x; exact ⟨z, its, r, ob, k _ _ (.inl rfl) e, c⟩
 | dK kvs => obtain ⟨z, y, vs, r, ob, es, ep, e, c⟩ := x; exact ⟨z, y, vs, r, ob, es, ep, k _ _ (.inl rfl) e, c⟩
 | dT kvs =>
   obtain ⟨z, y, xs, r, ob, es, ep, e, c⟩ := x
   exact ⟨z, y, xs, Paired.mapP r fun p q z => ⟨z.1, ht _ _ z.2.1, z.2.2⟩, ob, es, ep, k _ _ (.inl rfl) e, c⟩
 | set S n => obtain ⟨ob, es, ep, t, e, c⟩ := x; exact ⟨ob, es, ep, t, k _ _ (.inl rfl) e, c⟩
 | ins C dx fs =>
   obtain ⟨d, z, ne, e, mA, ⟨od, es, ep, e2, c⟩, r⟩ := x
   exact ⟨ho _ d, z, ne, k _ _ (.inl rfl) e, mA, ⟨od, es, ep, k _ _ (.inr d) e2, c⟩, r⟩
 | own y => obtain ⟨ob, e⟩ := x; exact ⟨ob, k _ _ (.inl rfl) e⟩
 | xd fs => obtain ⟨mA, ⟨od, es, ep, e, c⟩, r⟩ := x; exact ⟨mA, ⟨od, es, ep, k _ _ (.inl rfl) e, c⟩, r⟩
 | rng lo hi => obtain ⟨t, u, v, e⟩ := x; exact ⟨t, u, v, k _ _ (.inl rfl) e⟩
 | frz ob u ih => obtain ⟨e, q⟩ := x; exact ⟨k _ _ (.inl rfl) e, ih q⟩
 | tbl ps =>
   have e : h.get? a = some { cls := .none, data := .fields ps } := x
   show h'.get? a = some { cls := .none, data := .fields ps }
   exact k a _ (.inl rfl) e
 | met f y =>
   have e : h.get? a = some (PySem.W.methodObj (.ref f) (.ref y)) := x
   show h'.get? a = some (PySem.W.methodObj (.ref f) (.ref y))
   exact k a _ (.inl rfl) e
 | ext φ => obtain ⟨p, ⟨o, e⟩, st⟩ := x; exact ⟨st _ _ p fun o q => k _ _ (.inl rfl) q, ⟨o, k _ _ (.inl rfl) e⟩, st⟩
theorem HOk.lt (x : HOk P w H h) (e : H a = some o) : a < h.objs.size := (x a o e).lt
theorem HOk.fresh (x : HOk P w H h) (e : h.objs.size ≤ a) : H a = none := by
 cases q : H a with
 | none => rfl
 | some u => exact absurd (Nat.lt_of_lt_of_le (x.lt q) e) (Nat.lt_irrefl _)
theorem HOk.kept (x : HOk P w H h) (k : ∀ b u, h.get? b = some u → h'.get? b = some u) : HOk P w H h' := fun a o e =>
 (x a o e).stay (fun b u _ q => k b u q) (fun _ q => q) fun _ _ q => q
theorem HOk.laid (x : HOk P w H h) (k : ∀ b u, h.get? b = some u → h'.get? b = some u) (hp : h.objs.size ≤ a) (new : a2J P w (upd H a o) h' a o) : HOk P w (upd H a o) h' := fun b u e => by
 have hn := x.fresh hp
 by_cases hb : b = a
 ·subst hb; rw [a0O] at e; cases e; exact new
 ·rw [a0y hb] at e
  exact (x b u e).stay (fun c v _ q => k c v q) (fun c q => by rw [a0y (a0r q hn)]; exact q) fun c xs q => by rw [a0y (a0r q hn)]; exact q
end
noncomputable def Rd (H : Hp) (a : Addr) (u : HO) : Prop := H a = some u ∨ ∃ o, H a = some (.frz o u)
theorem Rd.ok {P : Program} {w : World} {H : Hp} {h : Heap} {a : Addr} {u : HO} (r : Rd H a u) (x : HOk P w H h) : a2J P w H h a u := by
 rcases r with r | ⟨o, r⟩
 ·exact x a u r
 ·obtain ⟨_, q⟩ := x a _ r
  exact q
noncomputable def Mut : Option HO → Prop
 | some (.lst _) => True
 | some (.dK _) => True
 | some (.dT _) => True
 | some (.set _ _) => True
 | some (.ins _ _ _) => True
 | some (.ext _) => True
 | _ => False
section
variable {P : Program} {w : World} {H : Hp} {h h' : Heap} {x e : Addr} {o' : HO}
theorem HOk.write (ok : HOk P w H h) (mu : Mut (H x)) (he : e = x ∨ H e = some (.own x)) (k : ∀ b u, b ≠ e → h.get? b = some u → h'.get? b = some u) (heo : ∃ u, h'.get? e = some u)
  (new : a2J P w (upd H x o') h' x o') : HOk P w (upd H x o') h' := fun b u q => by
 have nown : ∀ c y, H c = some (.own y) → c ≠ x := fun c y r z => by subst z; rw [r] at mu; exact mu
 have ntup : ∀ c xs, H c = some (.tup xs) → c ≠ x := fun c xs r z => by subst z; rw [r] at mu; exact mu
 by_cases hb : b = x
 ·subst hb; rw [a0O] at q; cases q; exact new
 ·rw [a0y hb] at q
  by_cases hbe : b = e
  ·have q' : H b = some (.own x) := by
    rcases he with z | z
    ·exact absurd (hbe.trans z) hb
    ·rw [hbe]; exact z
   rw [q] at q'; cases q'
   obtain ⟨v, hv⟩ := heo
   exact ⟨v, by rw [hbe]; exact hv⟩
  ·refine (ok b u q).stay (fun c v hc r => k c v ?_ r) (fun c r => by rw [a0y (nown c b r)]; exact r) fun c xs r => by rw [a0y (ntup c xs r)]; exact r
   rcases hc with rfl | hc
   ·exact hbe
   ·rintro rfl
    rcases he with z | z
    ·exact nown c b hc z
    ·rw [hc] at z; cases z; exact hb rfl
end
structure Un (fs ex : List Addr) (H H' : Hp) (h h' : Heap) : Prop where
 keep : ∀ b o, h.get? b = some o → H b = none → b ∉ fs → b ∉ ex → h'.get? b = some o
 slot : ∀ b o, h.get? b = some o → H b = none → b ∈ fs → b ∉ ex → ∃ sl, h'.get? b = some { o with slots := sl }
 free : ∀ b o, h.get? b = some o → H b = none → b ∉ ex → H' b = none
 there : ∀ b o, h.get? b = some o → b ∉ ex → ∃ o', h'.get? b = some o'
 tups : ∀ b xs, H b = some (.tup xs) → H' b = some (.tup xs)
 frzs : ∀ b o u, H b = some (.frz o u) → H' b = some (.frz o u)
 tbls : ∀ b ps, H b = some (.tbl ps) → ∃ more, H' b = some (.tbl (ps ++ more))
section
variable {fs fs' ex ex' : List Addr} {H H1 H2 : Hp} {h h1 h2 h' : Heap} {a x e : Addr} {o : HO}
theorem Un.any (u : Un fs ex H H1 h h1) {b : Addr} {ob : Obj} (q : h.get? b = some ob) (n : H b = none) (hx : b ∉ ex) : ∃ sl, h1.get? b = some { ob with slots := sl } := by
 by_cases hb : b ∈ fs
 ·exact u.slot b ob q n hb hx
 ·exact ⟨ob.slots, u.keep b ob q n hb hx⟩
theorem Un.trans (a : Un fs ex H H1 h h1) (b : Un fs ex H1 H2 h1 h2) : Un fs ex H H2 h h2 where
 keep := fun c ob q n hc hx => b.keep c ob (a.keep c ob q n hc hx) (a.free c ob q n hx) hc hx
 slot := fun c ob q n hc hx => by
  obtain ⟨sl, e1⟩ := a.slot c ob q n hc hx
  obtain ⟨sl', e2⟩ := b.slot c _ e1 (a.free c ob q n hx) hc hx
  exact ⟨sl', e2⟩
 free := fun c ob q n hx => by
  obtain ⟨o', e1⟩ := a.there c ob q hx
  exact b.free c o' e1 (a.free c ob q n hx) hx
 there := fun c ob q hx => by
  obtain ⟨o', e1⟩ := a.there c ob q hx
  exact b.there c o' e1 hx
 tups := fun c xs q => b.tups c xs (a.tups c xs q)
 frzs := fun c ob xs q => b.frzs c ob xs (a.frzs c ob xs q)
 tbls := fun c ps q => by
  obtain ⟨m1, e1⟩ := a.tbls c ps q
  obtain ⟨m2, e2⟩ := b.tbls c _ e1
  exact ⟨m1 ++ m2, by rw [e2, Array.append_assoc]⟩
theorem Un.kept (k : ∀ b u, h.get? b = some u → h'.get? b = some u) : Un fs ex H H h h' :=
 ⟨fun b ob q _ _ _ => k b ob q, fun b ob q _ _ _ => ⟨ob.slots, k b ob q⟩, fun _ _ _ n _ => n, fun b ob q _ => ⟨ob, k b ob q⟩, fun _ _ q => q, fun _ _ _ q => q, fun _ ps q => ⟨#[], by rw [q]; simp⟩⟩
theorem Un.refl : Un fs ex H H h h := Un.kept fun _ _ q => q
theorem Un.laid (k : ∀ b u, h.get? b = some u → h'.get? b = some u) (hp : h.objs.size ≤ a) (hn : H a = none) : Un fs ex H (upd H a o) h h' where
 keep := fun b u q _ _ _ => k b u q
 slot := fun b u q _ _ _ => ⟨u.slots, k b u q⟩
 free := fun b u q n _ => by rw [a0y (Nat.ne_of_lt (Nat.lt_of_lt_of_le (Heap.lt_size q) hp))]; exact n
 there := fun b u q _ => ⟨u, k b u q⟩
 tups := fun b xs q => by rw [a0y (a0r q hn)]; exact q
 frzs := fun b u xs q => by rw [a0y (a0r q hn)]; exact q
 tbls := fun b ps q => ⟨#[], by rw [a0y (a0r q hn), q]; simp⟩
theorem Un.write (mu : Mut (H x)) (he : e = x ∨ H e = some (.own x)) (k : ∀ b u, b ≠ e → h.get? b = some u → h'.get? b = some u) (heo : ∃ u, h'.get? e = some u) : Un fs ex H (upd H x o) h h' := by
 have hx : ∀ b, H b = none → b ≠ x := fun b n z => by subst z; rw [n] at mu; exact mu
 have hb : ∀ b, H b = none → b ≠ e := fun b n z => by
  subst z
  rcases he with r | r
  ·exact hx b n r
  ·rw [n] at r; cases r
 have hm : ∀ b u, H b = some u → ¬ Mut (some u) → b ≠ x := fun b u q nm z => by subst z; rw [q] at mu; exact nm mu
 refine ⟨fun b u q n _ _ => k b u (hb b n) q, fun b u q n _ _ => ⟨u.slots, k b u (hb b n) q⟩, fun b u q n _ => by rw [a0y (hx b n)]; exact n, fun b u q _ => ?_,
  fun b xs q => by rw [a0y (hm b _ q fun z => z)]; exact q, fun b u xs q => by rw [a0y (hm b _ q fun z => z)]; exact q, fun b ps q => ⟨#[], by rw [a0y (hm b _ q fun z => z), q]; simp⟩⟩
 by_cases hbe : b = e
 ·subst hbe; exact heo
 ·exact ⟨u, k b u hbe q⟩
end
noncomputable def trk (h : Heap) (H : Hp) : List Addr := (List.range h.objs.size).filter fun a => (H a).isSome
noncomputable def hidT (h : Heap) (H : Hp) : Heap := PySem.W.hideAll h (trk h H)
theorem b3j (h : Heap) (H : Hp) : (hidT h H).objs.size = h.objs.size := PySem.W.hideAll_size _ _
theorem b4L {h : Heap} {H : Hp} {b : Addr} {o : Obj} (e : h.get? b = some o) (n : H b = none) : (hidT h H).get? b = some o :=
 PySem.W.hideAll_get _ e fun hm => by
  have q : (H b).isSome = true := (List.mem_filter.mp hm).2
  rw [n] at q; simp at q
theorem b6E {h : Heap} {H : Hp} {b : Addr} {o : Obj} (e : (hidT h H).get? b = some o) : h.get? b = some o ∧ H b = none := by
 have e' : h.get? b = some o := PySem.W.of_hideAll (trk h H) e
 refine ⟨e', ?_⟩
 cases q : H b with
 | none => rfl
 | some x =>
   have hm : b ∈ trk h H := List.mem_filter.mpr ⟨List.mem_range.mpr (Heap.lt_size e'), by simp [q]⟩
   have z : (hidT h H).get? b = none := PySem.W.hideAll_none (trk h H) hm
   rw [z] at e; cases e
structure Mod (K : PySem.W.Frag) (mg : Str → Option Value) (base : Heap) : Prop where
 kin : K.In base
 glob : base.Ns mainGlobals mg
 blt : ∃ mb, base.Ns builtinsNs mb ∧ ∀ x : Str, x ≠ "__name__" → mb x = bootBuiltins x
 nolimit : base.NoLimit
structure Cx where
 prog : Program
 w : World
 K : PySem.W.Frag
 mg : Str → Option Value
 base : Heap
 A : Around
 N : List Str
 s₀ : Shared
 H₀ : Hp
 env : Env
 outer : List Env
 stack : List Env
 ex : List Addr
 fn : Str → Bool
 calm : Bool
 pn : List (Addr × Obj)
 xe : Value → Shared → Prop
noncomputable def frs (l : List Env) : List Addr := l.filterMap (·.frame)
noncomputable abbrev Cx.fs (X : Cx) : List Addr := frs X.outer
noncomputable def Vis (sc : Scope) (x : Str) : Prop := sc.names.lookup x = some .local ∨ sc.names.lookup x = some .cell ∨ sc.names.lookup x = some .free
noncomputable def Loc (sc : Scope) (x : Str) : Prop := sc.names.lookup x = some .local ∨ sc.names.lookup x = some .cell
noncomputable def Look (env : Env) (h : Heap) (m : Str → Option Value) (x : Str) (u : Value) : Prop :=
 (env.kindOf x = some .local ∧ m x = some u) ∨ ((env.kindOf x = some .cell ∨ env.kindOf x = some .free) ∧ ∃ c, env.cells.lookup x = some c ∧ h.IsCell c (some u))
structure Cx.Ok (X : Cx) : Prop where
 mod : Mod X.K X.mg X.base
 kind : X.env.scope.kind = .function
 glob : X.env.globals = mainGlobals
 blt : X.env.builtins = builtinsNs
 above : X.s₀.heap.objs.size ≤ X.env.locals
 inj : ∀ x y c, X.env.cells.lookup x = some c → X.env.cells.lookup y = some c → x = y
 has : ∀ x, (X.env.kindOf x = some .cell ∨ X.env.kindOf x = some .free) → ∃ c, X.env.cells.lookup x = some c
 cab : ∀ x c, X.fn x = true → X.env.cells.lookup x = some c → X.s₀.heap.objs.size ≤ c
 hd : X.calm = true → X.A.handled = none
 frames : X.A.frames = some X.stack
 stk : X.stack = X.outer ∨ (X.stack = X.env :: X.outer ∧ X.env.frame = some X.env.locals)
 exf : ∀ b ∈ X.ex, b ≠ X.env.locals ∧ ∀ x c, X.env.cells.lookup x = some c → c ≠ b
 bs : ∀ b o, X.base.get? b = some o → X.s₀.heap.get? b = some o ∧ X.H₀ b = none
 bsz : X.base.objs.size ≤ X.s₀.heap.objs.size
 noex : ∀ b o, X.base.get? b = some o → b ∉ X.ex
 exfs : ∀ b ∈ X.ex, b ∉ X.fs
 funs : X.s₀.heap.FunFrames X.base X.outer
 frf : ∀ b ∈ X.fs, X.H₀ b = none
structure Inv (X : Cx) (pins : List (Addr × Obj)) (σ : List (Option V)) (H : Hp) (s : Shared) : Prop where
 ok : X.Ok
 os : s.os = X.s₀.os
 bare : AllBare s.gens
 base : Un X.fs X.ex X.H₀ H X.s₀.heap s.heap
 loc : ∃ m, s.heap.Ns X.env.locals m ∧ ∀ (i : Nat) (x : Str) (v : V), X.N[i]? = some x → σ[i]? = some (some v) → Vis X.env.scope x → ∃ u, RelV v u ∧ Look X.env s.heap m x u
 cell : ∀ x c, X.env.cells.lookup x = some c → ∃ v, s.heap.IsCell c v
 free : H X.env.locals = none
 freeC : ∀ x c, X.env.cells.lookup x = some c → H c = none
 pin : ∀ p ∈ X.pn ++ pins, s.heap.get? p.1 = some p.2 ∧ H p.1 = none ∧ p.1 ≠ X.env.locals ∧ p.1 ∉ X.fs ∧ ∀ v, p.2.data ≠ .cell v
 hok : HOk X.prog X.w H s.heap
 len : σ.length = X.N.length
section
variable {X : Cx} {pins : List (Addr × Obj)} {σ : List (Option V)} {H H' : Hp} {s : Shared} {h' : Heap}
theorem Cx.Ok.nofr (ok : X.Ok) {b : Addr} {o : Obj} (e : X.base.get? b = some o) : b ∉ X.fs := fun hb => by
 have := (ok.funs.mem hb).1
 rw [e] at this; cases this
theorem Inv.bs (I : Inv X pins σ H s) : ∀ b o, X.base.get? b = some o → s.heap.get? b = some o ∧ H b = none := fun b o e =>
 ⟨I.base.keep b o (I.ok.bs b o e).1 (I.ok.bs b o e).2 (I.ok.nofr e) (I.ok.noex b o e), I.base.free b o (I.ok.bs b o e).1 (I.ok.bs b o e).2 (I.ok.noex b o e)⟩
theorem Inv.bk (I : Inv X pins σ H s) : ∀ b o, X.base.get? b = some o → s.heap.get? b = some o := fun b o e => (I.bs b o e).1
theorem Inv.mod (I : Inv X pins σ H s) : Mod X.K X.mg X.base := I.ok.mod
theorem Inv.kIn (I : Inv X pins σ H s) : X.K.In s.heap := I.ok.mod.kin.keeps I.bk
theorem Inv.lt (I : Inv X pins σ H s) : X.env.locals < s.heap.objs.size := let ⟨_, hn, _⟩ := I.loc; hn.lt
theorem Inv.sz (I : Inv X pins σ H s) : X.s₀.heap.objs.size ≤ s.heap.objs.size := Nat.le_trans I.ok.above (Nat.le_of_lt I.lt)
theorem Inv.nofs (I : Inv X pins σ H s) {a : Addr} (h : s.heap.objs.size ≤ a) : a ∉ X.fs := fun hb => by
 obtain ⟨_, o, ho, _⟩ := I.ok.funs.mem hb
 exact absurd (Nat.lt_of_lt_of_le (Heap.lt_size ho) (Nat.le_trans I.sz h)) (Nat.lt_irrefl _)
theorem Inv.cne (I : Inv X pins σ H s) : ∀ x c, X.env.cells.lookup x = some c → c ≠ X.env.locals := fun x c e z => by
 obtain ⟨v, o, ho, hd⟩ := I.cell x c e
 obtain ⟨m, ⟨o', es, ep, ho', hd', _⟩, _⟩ := I.loc
 rw [z, ho'] at ho; cases ho; rw [hd'] at hd; cases hd
theorem Inv.funs (I : Inv X pins σ H s) : s.heap.FunFrames X.base X.outer := by
 have all : ∀ (l : List Env), (∀ b ∈ frs l, b ∈ X.fs) → X.s₀.heap.FunFrames X.base l → s.heap.FunFrames X.base l := by
  intro l
  induction l with
  | nil => intro _ _; trivial
  | cons env r ih =>
    intro hs hl
    obtain ⟨hk, ⟨L, o, hf, hn, ho, hd⟩, hr⟩ := hl
    have hL : L ∈ X.fs := hs L (by unfold frs; rw [List.filterMap_cons, hf]; exact List.mem_cons_self)
    obtain ⟨sl, e⟩ := I.base.slot L o ho (I.ok.frf L hL) hL fun z => I.ok.exfs L z hL
    exact ⟨hk, ⟨L, _, hf, hn, e, hd⟩, ih (fun b hb => hs b (by unfold frs; rw [List.filterMap_cons, hf]; exact List.mem_cons_of_mem _ hb)) hr⟩
 exact all X.outer (fun _ hb => hb) I.ok.funs
theorem Inv.stack (I : Inv X pins σ H s) : s.heap.FunFrames X.base X.stack := by
 rcases I.ok.stk with e | ⟨e, hf⟩
 ·rw [e]; exact I.funs
 ·rw [e]
  obtain ⟨m, hn, _⟩ := I.loc
  refine .cons (by rw [I.ok.kind]; decide) hf hn ?_ I.funs
  exact Heap.get?_none_of_le (Nat.le_trans I.ok.bsz I.ok.above)
theorem Inv.stkSub (I : Inv X pins σ H s) : ∀ b ∈ frs X.stack, b ∈ X.env.locals :: X.fs := fun b hb => by
 rcases I.ok.stk with e | ⟨e, hf⟩
 ·rw [e] at hb; exact List.mem_cons_of_mem _ hb
 ·rw [e] at hb
  unfold frs at hb
  rw [List.filterMap_cons, hf] at hb
  exact hb
theorem Inv.stkFree (I : Inv X pins σ H s) : ∀ b ∈ frs X.stack, H b = none := fun b hb => by
 rcases List.mem_cons.mp (I.stkSub b hb) with e | hb
 ·rw [e]; exact I.free
 ·obtain ⟨_, o, ho, _⟩ := I.ok.funs.mem hb
  exact I.base.free b o ho (I.ok.frf b hb) fun z => I.ok.exfs b z hb
theorem Inv.step {g' : Array GenState} {t' : Nat} {d' : Drawn} {ch : List Addr} (I : Inv X pins σ H s)
  (hch : ∀ b ∈ ch, (b ∈ X.ex ∨ X.s₀.heap.objs.size ≤ b) ∧ b ≠ X.env.locals ∧ (∀ x c, X.env.cells.lookup x = some c → c ≠ b) ∧ ∀ p ∈ X.pn ++ pins, p.1 ≠ b)
  (keep : ∀ b o, b ≠ X.env.locals → b ∉ X.fs → b ∉ ch → s.heap.get? b = some o → H b = none → h'.get? b = some o)
  (slot : ∀ b o, b ≠ X.env.locals → b ∈ X.fs → b ∉ ch → s.heap.get? b = some o → H b = none → ∃ sl, h'.get? b = some { o with slots := sl }) (free : ∀ b o, b ∉ ch → s.heap.get? b = some o → H b = none → H' b = none)
  (there : ∀ b o, b ∉ ch → s.heap.get? b = some o → ∃ o', h'.get? b = some o')
  (tups : ∀ b xs, H b = some (.tup xs) → H' b = some (.tup xs)) (frzs : ∀ b o u, H b = some (.frz o u) → H' b = some (.frz o u)) (tbls : ∀ b ps, H b = some (.tbl ps) → ∃ more, H' b = some (.tbl (ps ++ more)))
  (ns : ∀ m, s.heap.Ns X.env.locals m → h'.Ns X.env.locals m) (hok : HOk X.prog X.w H' h') (hg : AllBare g') :
  Inv X pins σ H' { s with heap := h', gens := g', drawn := d', toks := t' } := by
 have neL : ∀ b o, X.s₀.heap.get? b = some o → b ≠ X.env.locals := fun b o e => Nat.ne_of_lt (Nat.lt_of_lt_of_le (Heap.lt_size e) I.ok.above)
 have neC : ∀ b o, X.s₀.heap.get? b = some o → b ∉ X.ex → b ∉ ch := fun b o e hx hb => by
  rcases (hch b hb).1 with z | z
  ·exact hx z
  ·exact absurd (Nat.lt_of_lt_of_le (Heap.lt_size e) z) (Nat.lt_irrefl _)
 have cellK : ∀ x c, X.env.cells.lookup x = some c → ∀ v, s.heap.IsCell c v → h'.IsCell c v := fun x c e v ⟨o, ho, hd⟩ => by
  have nch : c ∉ ch := fun z => (hch c z).2.2.1 x c e rfl
  by_cases hc : c ∈ X.fs
  ·obtain ⟨sl, q⟩ := slot c o (I.cne x c e) hc nch ho (I.freeC x c e)
   exact ⟨_, q, hd⟩
  ·exact ⟨o, keep c o (I.cne x c e) hc nch ho (I.freeC x c e), hd⟩
 refine ⟨I.ok, I.os, hg, ⟨fun b o e n hb hx => ?_, fun b o e n hb hx => ?_, fun b o e n hx => ?_, fun b o e hx => ?_, fun b xs e => tups b xs (I.base.tups b xs e), fun b o xs e => frzs b o xs (I.base.frzs b o xs e), fun b ps e => ?_⟩, ?_, fun x c e => ?_, ?_, fun x c e => ?_, fun p hp => ?_, hok, I.len⟩
 ·exact keep b o (neL b o e) hb (neC b o e hx) (I.base.keep b o e n hb hx) (I.base.free b o e n hx)
 ·obtain ⟨sl, e1⟩ := I.base.slot b o e n hb hx
  obtain ⟨sl', e2⟩ := slot b _ (neL b o e) hb (neC b o e hx) e1 (I.base.free b o e n hx)
  exact ⟨sl', e2⟩
 ·obtain ⟨o', e1⟩ := I.base.there b o e hx
  exact free b o' (neC b o e hx) e1 (I.base.free b o e n hx)
 ·obtain ⟨o', e1⟩ := I.base.there b o e hx
  exact there b o' (neC b o e hx) e1
 ·obtain ⟨m1, e1⟩ := I.base.tbls b ps e
  obtain ⟨m2, e2⟩ := tbls b _ e1
  exact ⟨m1 ++ m2, by rw [e2, Array.append_assoc]⟩
 ·obtain ⟨m, hn, hl⟩ := I.loc
  refine ⟨m, ns m hn, fun i x v e1 e2 e3 => ?_⟩
  obtain ⟨u, r, l⟩ := hl i x v e1 e2 e3
  refine ⟨u, r, ?_⟩
  rcases l with l | ⟨k, c, e, z⟩
  ·exact .inl l
  ·exact .inr ⟨k, c, e, cellK x c e _ z⟩
 ·obtain ⟨v, z⟩ := I.cell x c e
  exact ⟨v, cellK x c e v z⟩
 ·obtain ⟨m, ⟨o, _, _, ho, _⟩, _⟩ := I.loc
  exact free _ o (fun z => (hch _ z).2.1 rfl) ho I.free
 ·obtain ⟨v, o, ho, hd⟩ := I.cell x c e
  exact free c o (fun z => (hch c z).2.2.1 x c e rfl) ho (I.freeC x c e)
 ·obtain ⟨e, n, ne, nf, d⟩ := I.pin p hp
  have nch : p.1 ∉ ch := fun z => (hch p.1 z).2.2.2 p hp rfl
  exact ⟨keep p.1 p.2 ne nf nch e n, free p.1 p.2 nch e n, ne, nf, d⟩
theorem Inv.un {t' : Nat} (I : Inv X pins σ H s) (u : Un X.fs [] H H' s.heap h') (hok : HOk X.prog X.w H' h') : Inv X pins σ H' { s with heap := h', toks := t' } := by
 obtain ⟨m, ⟨o, es, ep, ho, r⟩, _⟩ := id I.loc
 obtain ⟨sl, hL⟩ := u.any ho I.free (by simp)
 exact I.step (g' := s.gens) (d' := s.drawn) (ch := []) (fun _ z => nomatch z) (fun b o _ hb _ e n => u.keep b o e n hb (by simp)) (fun b o _ hb _ e n => u.slot b o e n hb (by simp)) (fun b o _ e n => u.free b o e n (by simp)) (fun b o _ e => u.there b o e (by simp)) u.tups u.frzs u.tbls (fun m' hm => by
  obtain ⟨o', es', ep', ho', r'⟩ := hm
  rw [ho] at ho'; cases ho'
  exact ⟨_, es', ep', hL, r'⟩) hok I.bare
theorem Inv.call {g' : Array GenState} {t' : Nat} {d' : Drawn} {ch : List Addr} (I : Inv X pins σ H s) (u : Un (frs X.stack) ch H H' s.heap h') (hok : HOk X.prog X.w H' h') (hg : AllBare g')
  (hch : ∀ b ∈ ch, (b ∈ X.ex ∨ X.s₀.heap.objs.size ≤ b) ∧ b ≠ X.env.locals ∧ (∀ x c, X.env.cells.lookup x = some c → c ≠ b) ∧ ∀ p ∈ X.pn ++ pins, p.1 ≠ b) :
  Inv X pins σ H' { s with heap := h', gens := g', drawn := d', toks := t' } := by
 obtain ⟨m, ⟨o, es, ep, ho, r⟩, _⟩ := id I.loc
 obtain ⟨sl, hL⟩ := u.any ho I.free fun z => (hch _ z).2.1 rfl
 exact I.step (ch := ch) hch (fun b o hL hb hc e n => u.keep b o e n (fun z => (List.mem_cons.mp (I.stkSub b z)).elim hL hb) hc) (fun b o _ _ hc e n => u.any e n hc) (fun b o hc e n => u.free b o e n hc) (fun b o hc e => u.there b o e hc) u.tups u.frzs u.tbls (fun m' hm => by
  obtain ⟨o', es', ep', ho', r'⟩ := hm
  rw [ho] at ho'; cases ho'
  exact ⟨_, es', ep', hL, r'⟩) hok hg
theorem Inv.turned {t' : Nat} {it : Addr} (I : Inv X pins σ H s) (k : ∀ b o, b ≠ it → s.heap.get? b = some o → h'.get? b = some o) (hn : H it = none) (hL : it ≠ X.env.locals)
  (h1 : it ∈ X.ex ∨ X.s₀.heap.objs.size ≤ it) (h2 : ∀ x c, X.env.cells.lookup x = some c → c ≠ it) (h3 : ∀ p ∈ X.pn ++ pins, p.1 ≠ it) : Inv X pins σ H { s with heap := h', toks := t' } := by
 have nit : ∀ b u, H b = some u → b ≠ it := fun b u e z => by rw [z, hn] at e; cases e
 refine I.step (g' := s.gens) (d' := s.drawn) (ch := [it]) (fun b hb => ?_) (fun b o _ _ hc e _ => k b o (fun z => hc (by simp [z])) e) (fun b o _ _ hc e _ => ⟨o.slots, k b o (fun z => hc (by simp [z])) e⟩) (fun _ _ _ _ n => n)
  (fun b o hc e => ⟨o, k b o (fun z => hc (by simp [z])) e⟩) (fun _ _ e => e) (fun _ _ _ e => e) (fun b ps e => ⟨#[], by rw [e]; simp⟩) (fun m hm => ?_) (fun b u e => ?_) I.bare
 ·have e : b = it := by simpa using hb
  subst e
  exact ⟨h1, hL, h2, h3⟩
 ·obtain ⟨o, es, ep, ho, r⟩ := hm
  exact ⟨o, es, ep, k _ o (Ne.symm hL) ho, r⟩
 ·refine (I.hok b u e).stay (fun c v hc q => k c v ?_ q) (fun _ q => q) fun _ _ q => q
  rcases hc with z | z
  ·rw [z]; exact nit b u e
  ·exact nit c _ z
theorem Inv.tok (I : Inv X pins σ H s) (t : Nat) : Inv X pins σ H { s with toks := t } := I.un (h' := s.heap) (t' := t) Un.refl I.hok
theorem Inv.kept {t' : Nat} (I : Inv X pins σ H s) (k : ∀ b u, s.heap.get? b = some u → h'.get? b = some u) : Inv X pins σ H { s with heap := h', toks := t' } := I.un (Un.kept k) (I.hok.kept k)
theorem Inv.laid {a : Addr} {o : HO} {t' : Nat} (I : Inv X pins σ H s) (k : ∀ b u, s.heap.get? b = some u → h'.get? b = some u) (hp : s.heap.objs.size ≤ a) (new : a2J X.prog X.w (upd H a o) h' a o) :
  Inv X pins σ (upd H a o) { s with heap := h', toks := t' } := I.un (Un.laid k hp (I.hok.fresh hp)) (I.hok.laid k hp new)
theorem Inv.write {x e : Addr} {o : HO} {t' : Nat} (I : Inv X pins σ H s) (mu : Mut (H x)) (he : e = x ∨ H e = some (.own x)) (k : ∀ b u, b ≠ e → s.heap.get? b = some u → h'.get? b = some u) (heo : ∃ u, h'.get? e = some u)
  (new : a2J X.prog X.w (upd H x o) h' x o) : Inv X pins σ (upd H x o) { s with heap := h', toks := t' } := I.un (Un.write mu he k heo) (I.hok.write mu he k heo new)
theorem Inv.weak {σ' : List (Option V)} (I : Inv X pins σ H s) (hl : σ'.length = σ.length) (w : ∀ (i : Nat) v, σ'[i]? = some (some v) → σ[i]? = some (some v)) : Inv X pins σ' H s :=
 ⟨I.ok, I.os, I.bare, I.base, let ⟨m, hn, hl'⟩ := I.loc; ⟨m, hn, fun i x v e1 e2 e3 => hl' i x v e1 (w i v e2) e3⟩, I.cell, I.free, I.freeC, I.pin, I.hok, hl.trans I.len⟩
theorem Inv.pins_of {pins' : List (Addr × Obj)} (I : Inv X pins σ H s) (h : ∀ p ∈ pins', s.heap.get? p.1 = some p.2 ∧ H p.1 = none ∧ p.1 ≠ X.env.locals ∧ p.1 ∉ X.fs ∧ ∀ v, p.2.data ≠ .cell v) : Inv X pins' σ H s :=
 ⟨I.ok, I.os, I.bare, I.base, I.loc, I.cell, I.free, I.freeC, fun p hp => (List.mem_append.mp hp).elim (fun z => I.pin p (List.mem_append_left _ z)) (h p), I.hok, I.len⟩
theorem b0I {N : List Str} (hN : N.Nodup) {i j : Nat} {x : Str} (a : N[i]? = some x) (b : N[j]? = some x) : i = j := by
 obtain ⟨h1, e1⟩ := List.getElem?_eq_some_iff.mp a
 obtain ⟨h2, e2⟩ := List.getElem?_eq_some_iff.mp b
 exact (List.getElem_inj hN).mp (e1.trans e2.symm)
theorem a8A {M : Model} {A : Around} {E : Value → Shared → Prop} {i : Nat} {x : Str} {v : V} {u : Value} {Q : Unit → Shared → Prop} (I : Inv X pins σ H s) (hN : X.N.Nodup) (hi : X.N[i]? = some x) (hx : Loc X.env.scope x) (r : RelV v u)
  (h : ∀ s', Inv X pins (σ.set i (some v)) H s' → (∃ a, Heap.SameBut a s.heap s'.heap ∧ (a = X.env.locals ∨ X.env.cells.lookup x = some a)) → Q () s') (hf : X.fn x = true ∨ X.env.scope.names.lookup x = some .local := by first | exact .inl rfl | exact .inr rfl | assumption) : wpAny M A (storeName X.env x u) Q E s := by
 obtain ⟨m, hn, hl⟩ := id I.loc
 have hcls : (X.env.scope.kind == .class || (X.env.scope.kind == .module && X.env.locals != X.env.globals)) = false := by rw [I.ok.kind]; rfl
 have hiσ : i < σ.length := by rw [I.len]; exact (List.getElem?_eq_some_iff.mp hi).1
 have cne := I.cne
 have tracked : ∀ {a : Addr} {h' : Heap}, (∃ o, s.heap.get? a = some o ∧ H a = none) → Heap.SameBut a s.heap h' → HOk X.prog X.w H h' := fun {a h'} ha hs b ob e => by
  obtain ⟨_, _, hfree⟩ := ha
  refine (I.hok b ob e).stay (fun c w' hc q => (hs.2 c ?_).trans q) (fun _ q => q) fun _ _ q => q
  rintro rfl
  rcases hc with rfl | hc
  ·rw [hfree] at e; cases e
  ·rw [hfree] at hc; cases hc
 rcases hx with hk | hk
 ·refine wpAny_storeName_local hk hn (fun h' hn' hs => ?_) hcls
  obtain ⟨oL, _, _, hoL, _⟩ := id hn
  refine h _ ⟨I.ok, I.os, I.bare, ⟨fun b o e n hb hx => ?_, fun b o e n hb hx => ?_, I.base.free, fun b o e hx => ?_, I.base.tups, I.base.frzs, I.base.tbls⟩, ⟨_, hn', fun j y v' e1 e2 e3 => ?_⟩, fun y c e => ?_, I.free, I.freeC, fun p hp => ?_, tracked ⟨oL, hoL, I.free⟩ hs, by simpa using I.len⟩ ⟨_, hs, .inl rfl⟩
  ·exact (hs.2 b (Nat.ne_of_lt (Nat.lt_of_lt_of_le (Heap.lt_size e) I.ok.above))).trans (I.base.keep b o e n hb hx)
  ·obtain ⟨sl, e1⟩ := I.base.slot b o e n hb hx
   exact ⟨sl, (hs.2 b (Nat.ne_of_lt (Nat.lt_of_lt_of_le (Heap.lt_size e) I.ok.above))).trans e1⟩
  ·obtain ⟨o', e1⟩ := I.base.there b o e hx
   exact ⟨o', (hs.2 b (Nat.ne_of_lt (Nat.lt_of_lt_of_le (Heap.lt_size e) I.ok.above))).trans e1⟩
  ·by_cases hj : j = i
   ·subst hj
    rw [hi] at e1; cases e1
    rw [List.getElem?_set_self hiσ] at e2
    cases e2
    exact ⟨u, r, .inl ⟨hk, by simp⟩⟩
   ·rw [List.getElem?_set_ne (Ne.symm hj)] at e2
    obtain ⟨u', r', q⟩ := hl j y v' e1 e2 e3
    refine ⟨u', r', ?_⟩
    rcases q with ⟨k, e⟩ | ⟨k, c, e, z⟩
    ·refine .inl ⟨k, ?_⟩
     have : y ≠ x := fun e => hj (b0I hN e1 (e ▸ hi))
     simp [this, e]
    ·exact .inr ⟨k, c, e, z.sameBut hs (cne y c e)⟩
  ·obtain ⟨w', z⟩ := I.cell y c e
   exact ⟨w', z.sameBut hs (cne y c e)⟩
  ·obtain ⟨e, n, ne, nf, d⟩ := I.pin p hp
   exact ⟨(hs.2 p.1 ne).trans e, n, ne, nf, d⟩
 ·have hfn : X.fn x = true := by
   rcases hf with z | z
   ·exact z
   ·rw [z] at hk; cases hk
  obtain ⟨c, hc⟩ := I.ok.has x (.inl hk)
  obtain ⟨w', z⟩ := I.cell x c hc
  refine wpAny_storeName_cell I.ok.kind hk hc z (fun h' hc' hs => ?_)
  obtain ⟨oc, hoc, hocd⟩ := id z
  refine h { s with heap := h' } ⟨I.ok, I.os, I.bare, ⟨fun b o e n hb hx => ?_, fun b o e n hb hx => ?_, I.base.free, fun b o e hx => ?_, I.base.tups, I.base.frzs, I.base.tbls⟩, ⟨m, hn.sameBut hs (Ne.symm (cne x c hc)), fun j y v' e1 e2 e3 => ?_⟩, fun y c' e => ?_, I.free, I.freeC, fun p hp => ?_, tracked ⟨oc, hoc, I.freeC x c hc⟩ hs, by simpa using I.len⟩ ⟨c, hs, .inr hc⟩
  ·exact (hs.2 b (Nat.ne_of_lt (Nat.lt_of_lt_of_le (Heap.lt_size e) (I.ok.cab x c hfn hc)))).trans (I.base.keep b o e n hb hx)
  ·obtain ⟨sl, e1⟩ := I.base.slot b o e n hb hx
   exact ⟨sl, (hs.2 b (Nat.ne_of_lt (Nat.lt_of_lt_of_le (Heap.lt_size e) (I.ok.cab x c hfn hc)))).trans e1⟩
  ·obtain ⟨o', e1⟩ := I.base.there b o e hx
   exact ⟨o', (hs.2 b (Nat.ne_of_lt (Nat.lt_of_lt_of_le (Heap.lt_size e) (I.ok.cab x c hfn hc)))).trans e1⟩
  ·by_cases hj : j = i
   ·subst hj
    rw [hi] at e1; cases e1
    rw [List.getElem?_set_self hiσ] at e2
    cases e2
    exact ⟨u, r, .inr ⟨.inl hk, c, hc, hc'⟩⟩
   ·rw [List.getElem?_set_ne (Ne.symm hj)] at e2
    obtain ⟨u', r', q⟩ := hl j y v' e1 e2 e3
    refine ⟨u', r', ?_⟩
    rcases q with q | ⟨k, c', e, z'⟩
    ·exact .inl q
    ·refine .inr ⟨k, c', e, z'.sameBut hs ?_⟩
     rintro rfl
     exact hj (b0I hN e1 (I.ok.inj _ _ _ e hc ▸ hi))
  ·by_cases hcc : c' = c
   ·subst hcc; exact ⟨_, hc'⟩
   ·obtain ⟨w2, z2⟩ := I.cell y c' e
    exact ⟨w2, z2.sameBut hs hcc⟩
  ·obtain ⟨e, n, ne, nf, d⟩ := I.pin p hp
   refine ⟨(hs.2 p.1 ?_).trans e, n, ne, nf, d⟩
   intro q
   rw [q, hoc] at e
   have q' : oc = p.2 := Option.some.inj e
   exact d w' (by rw [← q']; exact hocd)
theorem a4S {M : Model} {A : Around} {E : Value → Shared → Prop} {i : Nat} {x : Str} {v : V} {u : Value} {Q : Unit → Shared → Prop} (I : Inv X pins σ H s) (hN : X.N.Nodup) (hi : X.N[i]? = some x) (hx : Loc X.env.scope x) (r : RelV v u)
  (h : ∀ s', Inv X pins (σ.set i (some v)) H s' → Q () s') (hf : X.fn x = true ∨ X.env.scope.names.lookup x = some .local := by first | exact .inl rfl | exact .inr rfl | assumption) : wpAny M A (storeName X.env x u) Q E s :=
 a8A I hN hi hx r (fun s' I' _ => h s' I') hf
theorem Inv.call' {s' : Shared} {ch : List Addr} (I : Inv X pins σ H s) (ho : s'.os = s.os) (u : Un (frs X.stack) ch H H' s.heap s'.heap) (hok : HOk X.prog X.w H' s'.heap) (hg : AllBare s'.gens)
  (hch : ∀ b ∈ ch, (b ∈ X.ex ∨ X.s₀.heap.objs.size ≤ b) ∧ b ≠ X.env.locals ∧ (∀ x c, X.env.cells.lookup x = some c → c ≠ b) ∧ ∀ p ∈ X.pn ++ pins, p.1 ≠ b) : Inv X pins σ H' s' := by
 obtain ⟨h', g', d', t', o'⟩ := s'
 have e : o' = s.os := ho
 subst e
 exact I.call (g' := g') (t' := t') (d' := d') u hok hg hch
end
noncomputable abbrev XK := Value → Option Addr → Hp → Prop
noncomputable abbrev St := List (Option V)
noncomputable abbrev VK := V → Hp → Prop
noncomputable abbrev TE := St → Hp → VK → Prop
noncomputable abbrev TT := St → Hp → (Bool → Hp → Prop) → Prop
noncomputable abbrev TA := St → Hp → (List V → Hp → Prop) → Prop
structure Ends where
 nx : St → Hp → Prop
 rt : VK
 bk : St → Hp → Prop := fun _ _ => False
 ct : St → Hp → Prop := fun _ _ => False
noncomputable abbrev TS := Ends → St → Hp → Prop
noncomputable def EP (X : Cx) (pins : List (Addr × Obj)) (σ : St) (Q : VK) (u : Value) (s' : Shared) : Prop := ∃ v H', Inv X pins σ H' s' ∧ RelV v u ∧ Q v H'
noncomputable def TP (X : Cx) (pins : List (Addr × Obj)) (σ : St) (Q : Bool → Hp → Prop) (b : Bool) (s' : Shared) : Prop := ∃ H', Inv X pins σ H' s' ∧ Q b H'
noncomputable def AP (X : Cx) (pins : List (Addr × Obj)) (σ : St) (Q : List V → Hp → Prop) (us : List Value) (s' : Shared) : Prop := ∃ vs H', Inv X pins σ H' s' ∧ Vals vs us ∧ Q vs H'
noncomputable def SP (X : Cx) (pins : List (Addr × Obj)) (D : Ends) (f : Flow) (s' : Shared) : Prop :=
 match f with
 | .next => ∃ σ' H', Inv X pins σ' H' s' ∧ D.nx σ' H'
 | .brk => ∃ σ' H', Inv X pins σ' H' s' ∧ D.bk σ' H'
 | .cont => ∃ σ' H', Inv X pins σ' H' s' ∧ D.ct σ' H'
 | .ret u => ∃ v σ' H', Inv X pins σ' H' s' ∧ RelV v u ∧ D.rt v H'
noncomputable def PE (X : Cx) (e : Expr) (t : TE) : Prop :=
 ∀ (pins : List (Addr × Obj)) (s : Shared) (σ : St) (H : Hp) (Q : VK), Inv X pins σ H s → t σ H Q → wpAny (model X.prog X.w) X.A (eval e X.env) (EP X pins σ Q) X.xe s
noncomputable def PT (X : Cx) (e : Expr) (t : TT) : Prop :=
 ∀ (pins : List (Addr × Obj)) (s : Shared) (σ : St) (H : Hp) (Q : Bool → Hp → Prop), Inv X pins σ H s → t σ H Q → wpAny (model X.prog X.w) X.A (isTrue e X.env (eval e X.env)) (TP X pins σ Q) X.xe s
noncomputable def PW (X : Cx) (e : Expr) (t : TT) : Prop :=
 ∀ (whole : Sem Value) (pins : List (Addr × Obj)) (s : Shared) (σ : St) (H : Hp) (Q : Bool → Hp → Prop), Inv X pins σ H s → t σ H Q → wpAny (model X.prog X.w) X.A (isTrue e X.env whole) (TP X pins σ Q) X.xe s
theorem PW.pt {X : Cx} {e : Expr} {t : TT} (h : PW X e t) : PT X e t := h _
noncomputable def PA (X : Cx) (es : List Expr) (t : TA) : Prop :=
 ∀ (pos : Pos) (pins : List (Addr × Obj)) (s : Shared) (σ : St) (H : Hp) (Q : List V → Hp → Prop), Inv X pins σ H s → t σ H Q → wpAny (model X.prog X.w) X.A (spliced (backTo pos (starEach es X.env))) (AP X pins σ Q) X.xe s
noncomputable def PS (X : Cx) (st : Stmt) (t : TS) : Prop :=
 ∀ (pins : List (Addr × Obj)) (s : Shared) (σ : St) (H : Hp) (D : Ends), Inv X pins σ H s → t D σ H → wpAny (model X.prog X.w) X.A (exec st X.env) (SP X pins D) X.xe s
noncomputable def PSs (X : Cx) (st : List Stmt) (t : TS) : Prop :=
 ∀ (pins : List (Addr × Obj)) (s : Shared) (σ : St) (H : Hp) (D : Ends), Inv X pins σ H s → t D σ H → wpAny (model X.prog X.w) X.A (execs st X.env) (SP X pins D) X.xe s
theorem thn {α : Type} {t : Sem α} {Q Q' : α → Shared → Prop} {M : Model} {A : Around} {E : Value → Shared → Prop} {s : Shared} (h : wpAny M A t Q E s) (hQ : ∀ a s, Q a s → Q' a s) : wpAny M A t Q' E s := wpAny_mono h hQ fun _ _ x => x
section
variable {X : Cx}
noncomputable def tVar (i : Nat) : TE := fun σ H Q => ∃ v, σ[i]? = some (some v) ∧ Q v H
noncomputable def tC (v : V) : TE := fun _ H Q => Q v H
theorem b7Z {i : Nat} {x : Str} {pos : Pos} (hN : X.N[i]? = some x) (hv : Vis X.env.scope x) (hd : (x == ("__debug__" : Str)) = false := by decide) (hcd : (x == ("__classdict__" : Str)) = false := by decide) : PE X (.Name x pos) (tVar i) := by
 intro pins s σ H Q I h
 obtain ⟨v, e, h⟩ := h
 obtain ⟨m, hn, hl⟩ := I.loc
 obtain ⟨u, r, l⟩ := hl i x v hN e hv
 have fin : EP X pins σ Q u s := ⟨v, H, I, r, h⟩
 rcases l with ⟨hk, hm⟩ | ⟨hk, c, hc, hcell⟩
 ·exact wpAny_Name (wpAny_loadName_local I.ok.kind hk hn hm fin) hd
 ·rcases hk with hk | hk
  ·exact wpAny_Name (wpAny_loadName_cell I.ok.kind hk hc hcell fin) hd
  ·exact wpAny_Name (wpAny_loadName_free I.ok.kind hk hc hcell fin hcd) hd
theorem b8e {i j pos} : PE X (.Constant (.int i) j pos) (tC (.int i)) := fun _ _ _ H _ I h => wpAny_Constant_int ⟨.int i, H, I.tok _, ⟨_, rfl⟩, h⟩
theorem b9r {b j pos} : PE X (.Constant (.bool b) j pos) (tC (.bl b)) := fun _ _ _ H _ I h => Constant_bool ⟨.bl b, H, I, rfl, h⟩
theorem b8c {j pos} : PE X (.Constant .none j pos) (tC .non) := fun _ _ _ H _ I h => Constant_none ⟨.non, H, I, rfl, h⟩
theorem b8a {x j pos} : PE X (.Constant (.str x) j pos) (tC (.str x)) := fun _ _ _ H _ I h => Calls.Constant_str ⟨.str x, H, I.tok _, ⟨_, rfl⟩, h⟩
noncomputable def Gl (X : Cx) (x : Str) : Prop := X.env.kindOf x = some .globalImplicit
theorem b2X {E : Value → Shared → Prop} {pins : List (Addr × Obj)} {s : Shared} {σ : St} {H : Hp} {x : Str} {u : Value} {pos : Pos} {Q : Value → Shared → Prop} (I : Inv X pins σ H s) (hg : Gl X x) (hm : X.mg x = some u) (h : Q u s)
  (hd : (x == ("__debug__" : Str)) = false := by decide) : wpAny (model X.prog X.w) X.A (eval (.Name x pos) X.env) Q E s :=
 Calls.Name_function_global I.ok.kind hg (Calls.loadGlobal_global (by rw [I.ok.glob]; exact I.mod.glob.keeps I.bk) hm h) hd
theorem a5F {E : Value → Shared → Prop} {pins : List (Addr × Obj)} {s : Shared} {σ : St} {H : Hp} {x : Str} {u : Value} {pos : Pos} {Q : Value → Shared → Prop} (I : Inv X pins σ H s) (hg : Gl X x) (hm : X.mg x = none) (hv : bootBuiltins x = some u) (h : Q u s)
  (hn : x ≠ "__name__" := by decide) (hd : (x == ("__debug__" : Str)) = false := by decide) : wpAny (model X.prog X.w) X.A (eval (.Name x pos) X.env) Q E s := by
 obtain ⟨mb, h1, h2⟩ := I.mod.blt
 exact Calls.Name_function_global I.ok.kind hg (Calls.loadGlobal_builtin (by rw [I.ok.glob]; exact I.mod.glob.keeps I.bk) hm (by rw [I.ok.blt]; exact h1.keeps I.bk) ((h2 x hn).trans hv) h) hd
theorem b6t {x : Str} {v : V} {u : Value} {pos : Pos} (hg : Gl X x) (hm : X.mg x = some u) (r : RelV v u) (hd : (x == ("__debug__" : Str)) = false := by decide) : PE X (.Name x pos) (tC v) :=
 fun _ _ _ H _ I h => b2X I hg hm ⟨v, H, I, r, h⟩ hd
variable {a b : Expr} {ta tb : TE} {pos : Pos}
variable {tA tB' : TT} {rest : List Expr}
noncomputable def tAnd (t u : TT) : TT := fun σ H Q => t σ H fun c H1 => if c = true then u σ H1 Q else Q false H1
noncomputable def tOr (t u : TT) : TT := fun σ H Q => t σ H fun c H1 => if c = true then Q true H1 else u σ H1 Q
noncomputable def tNot (t : TT) : TT := fun σ H Q => t σ H fun c H1 => Q (!c) H1
theorem b6f (ha : PT X a tA) : PW X (.BoolOp .And [a] pos) tA := by
 intro wh pins s σ H Q I h
 refine isTrue_and (thn (ha pins s σ H Q I h) fun c s1 e => ?_)
 cases c with
 | true => exact isTrue_and_nil e
 | false => exact e
theorem b7O (ha : PT X a tA) : PW X (.BoolOp .Or [a] pos) tA := by
 intro wh pins s σ H Q I h
 refine isTrue_or (thn (ha pins s σ H Q I h) fun c s1 e => ?_)
 cases c with
 | false => exact isTrue_or_nil e
 | true => exact e
theorem b7P (ha : PT X a tA) (hb : PW X (.BoolOp .And (b :: rest) pos) tB') : PW X (.BoolOp .And (a :: b :: rest) pos) (tAnd tA tB') := by
 intro wh pins s σ H Q I h
 refine isTrue_and (thn (ha pins s σ H _ I h) fun c s1 ⟨H1, I1, q1⟩ => ?_)
 cases c with
 | true => exact hb wh pins s1 σ H1 Q I1 q1
 | false => exact ⟨H1, I1, q1⟩
theorem b9k (ha : PT X a tA) (hb : PW X (.BoolOp .Or (b :: rest) pos) tB') : PW X (.BoolOp .Or (a :: b :: rest) pos) (tOr tA tB') := by
 intro wh pins s σ H Q I h
 refine isTrue_or (thn (ha pins s σ H _ I h) fun c s1 ⟨H1, I1, q1⟩ => ?_)
 cases c with
 | true => exact ⟨H1, I1, q1⟩
 | false => exact hb wh pins s1 σ H1 Q I1 q1
theorem b7Q (ha : PT X a tA) : PT X (.UnaryOp .Not a pos) (tNot tA) := by
 intro pins s σ H Q I h
 exact isTrue_not (ha pins s σ H (fun c H1 => Q (!c) H1) I h)
noncomputable def b8Z (ta tb : TE) : TE := fun σ H Q => ta σ H fun x H1 => ∃ c, x = .bl c ∧ if c = true then tb σ H1 Q else Q (.bl false) H1
noncomputable def tOrV (ta tb : TE) : TE := fun σ H Q => ta σ H fun x H1 => ∃ c, x = .bl c ∧ if c = true then Q (.bl true) H1 else tb σ H1 Q
theorem b8b {op} {t : TE} (h : PE X a t) : PE X (.BoolOp op [a] pos) t := fun pins s σ H Q I hw => BoolOp_one (h pins s σ H Q I hw)
theorem b8f (ha : PE X a ta) (hb : PE X (.BoolOp .And (b :: rest) pos) tb) : PE X (.BoolOp .And (a :: b :: rest) pos) (b8Z ta tb) := by
 intro pins s σ H Q I h
 refine BoolOp_and (thn (ha pins s σ H _ I h) fun v s1 ⟨x, H1, I1, r1, q1⟩ => ?_)
 obtain ⟨c, rfl, q1⟩ := q1
 cases r1
 refine wpAny_truthy_bool ?_
 cases c with
 | true => exact hb pins s1 σ H1 Q I1 q1
 | false => exact ⟨.bl false, H1, I1, rfl, q1⟩
theorem b9n (ha : PE X a ta) (hb : PE X (.BoolOp .Or (b :: rest) pos) tb) : PE X (.BoolOp .Or (a :: b :: rest) pos) (tOrV ta tb) := by
 intro pins s σ H Q I h
 refine BoolOp_or (thn (ha pins s σ H _ I h) fun v s1 ⟨x, H1, I1, r1, q1⟩ => ?_)
 obtain ⟨c, rfl, q1⟩ := q1
 cases r1
 refine wpAny_truthy_bool ?_
 cases c with
 | false => exact hb pins s1 σ H1 Q I1 q1
 | true => exact ⟨.bl true, H1, I1, rfl, q1⟩
end
noncomputable def SqL (K : PySem.W.Frag) (H : Hp) (a : Addr) (xs : List V) : Prop :=
 Rd H a (.lst xs) ∨
  ∃ (o : Obj) (its : Array Value) (n : Nat), K.lookup a = some o ∧ o.cls = .type "list" ∧ o.dict = none ∧ o.data = .seq its n ∧ its.size ≤ sizeLine ∧ Vals xs its.toList
noncomputable def SqT (K : PySem.W.Frag) (H : Hp) (a : Addr) (xs : List V) : Prop :=
 Rd H a (.tup xs) ∨
  ∃ (o : Obj) (its : Array Value) (n : Nat), K.lookup a = some o ∧ o.cls = .type "tuple" ∧ o.dict = none ∧ o.data = .seq its n ∧ its.size ≤ sizeLine ∧ Vals xs its.toList
noncomputable def absV : Value → Option V
 | .none => some .non
 | .bool b => some (.bl b)
 | .int i _ => some (.int i)
 | .str x _ => some (.str x)
 | .bytes b _ => some (.byt b)
 | .float b _ => some (.flt b)
 | .ref a => some (.ref a)
 | .type n => some (.ty n)
 | _ => none
theorem RelV.abs {x : V} {u : Value} (r : RelV x u) : absV u = some x := by
 cases x with
 | non => cases r; rfl
 | bl _ => cases r; rfl
 | int _ => obtain ⟨t, rfl⟩ := r; rfl
 | str _ => obtain ⟨t, rfl⟩ := r; rfl
 | byt _ => obtain ⟨t, rfl⟩ := r; rfl
 | flt _ => obtain ⟨t, rfl⟩ := r; rfl
 | ref _ => cases r; rfl
 | ty _ => cases r; rfl
theorem RelV.inj {x y : V} {u : Value} (r : RelV x u) (q : RelV y u) : x = y := Option.some.inj (r.abs.symm.trans q.abs)
theorem Vals.inj : ∀ {xs ys : List V} {us : List Value}, Vals xs us → Vals ys us → xs = ys
 | _, _, _, .nil, .nil => rfl
 | _, _, _, .cons r t, .cons r' t' => by rw [r.inj r', Vals.inj t t']
section
variable {X : Cx} {pins : List (Addr × Obj)} {σ : St} {H : Hp} {s : Shared} {a : Addr} {xs ys : List V}
theorem SqL.of {K : PySem.W.Frag} (h : H a = some (.lst xs)) : SqL K H a xs := .inl (.inl h)
theorem SqT.of {K : PySem.W.Frag} (h : H a = some (.tup xs)) : SqT K H a xs := .inl (.inl h)
theorem Inv.list (I : Inv X pins σ H s) (h : SqL X.K H a xs) : ∃ its : List Value, Vals xs its ∧ PlainL s.heap a its.toArray ∧ xs.length ≤ sizeLine := by
 rcases h with h | ⟨o, its, n, hk, hc, hd, hs, hz, r⟩
 ·obtain ⟨z, its, n, r, e⟩ := h.ok I.hok
  exact ⟨its, r, ⟨_, n, e, rfl, rfl, rfl⟩, z⟩
 ·refine ⟨its.toList, r, ⟨o, n, I.kIn a o hk, hc, hd, by simpa using hs⟩, ?_⟩
  have e := r.length
  simp only [Array.length_toList] at e
  lia
theorem Inv.tuple (I : Inv X pins σ H s) (h : SqT X.K H a xs) : ∃ its : List Value, Vals xs its ∧ IsTup s.heap a its.toArray ∧ xs.length ≤ sizeLine := by
 rcases h with h | ⟨o, its, n, hk, hc, hd, hs, hz, r⟩
 ·obtain ⟨z, its, r, p⟩ := h.ok I.hok
  exact ⟨its, r, p.t, z⟩
 ·refine ⟨its.toList, r, ⟨o, I.kIn a o hk, hc, n, by simpa using hs⟩, ?_⟩
  have e := r.length
  simp only [Array.length_toList] at e
  lia
theorem Inv.tuple0 (I : Inv X pins σ H s) (h : SqT X.K H a xs) : ∃ its : List Value, Vals xs its ∧ a3z s.heap a its.toArray ∧ xs.length ≤ sizeLine := by
 rcases h with h | ⟨o, its, n, hk, hc, hd, hs, hz, r⟩
 ·obtain ⟨z, its, r, p⟩ := h.ok I.hok
  exact ⟨its, r, p, z⟩
 ·refine ⟨its.toList, r, ⟨o, I.kIn a o hk, hc, hd, n, by simpa using hs⟩, ?_⟩
  have e := r.length
  simp only [Array.length_toList] at e
  lia
theorem Inv.list_inj (I : Inv X pins σ H s) (h : SqL X.K H a xs) (h' : SqL X.K H a ys) : xs = ys := by
 obtain ⟨its, r, ⟨o, n, e, _, _, d⟩, _⟩ := I.list h
 obtain ⟨its', r', ⟨o', n', e', _, _, d'⟩, _⟩ := I.list h'
 rw [e] at e'; cases e'
 rw [d] at d'
 injection d' with d1 _
 have : its = its' := by simpa using congrArg Array.toList d1
 subst this
 exact r.inj r'
theorem Inv.tuple_inj (I : Inv X pins σ H s) (h : SqT X.K H a xs) (h' : SqT X.K H a ys) : xs = ys := by
 obtain ⟨its, r, ⟨o, e, _, n, d⟩, _⟩ := I.tuple h
 obtain ⟨its', r', ⟨o', e', _, n', d'⟩, _⟩ := I.tuple h'
 rw [e] at e'; cases e'
 rw [d] at d'
 injection d' with d1 _
 have : its = its' := by simpa using congrArg Array.toList d1
 subst this
 exact r.inj r'
end
noncomputable abbrev Cx.wish (X : Cx) (E : Value → Shared → Prop) : Cx := { X with xe := E }
noncomputable abbrev Cx.nox (X : Cx) : Cx := X.wish fun _ _ => False
theorem Cx.Ok.wish {X : Cx} (ok : X.Ok) (E : Value → Shared → Prop) : (X.wish E).Ok :=
 ⟨ok.mod, ok.kind, ok.glob, ok.blt, ok.above, ok.inj, ok.has, ok.cab, ok.hd, ok.frames, ok.stk, ok.exf, ok.bs, ok.bsz, ok.noex, ok.exfs, ok.funs, ok.frf⟩
theorem Cx.Ok.unwish {X : Cx} {E : Value → Shared → Prop} (ok : (X.wish E).Ok) : X.Ok :=
 ⟨ok.mod, ok.kind, ok.glob, ok.blt, ok.above, ok.inj, ok.has, ok.cab, ok.hd, ok.frames, ok.stk, ok.exf, ok.bs, ok.bsz, ok.noex, ok.exfs, ok.funs, ok.frf⟩
section
variable {X : Cx} {pins : List (Addr × Obj)} {σ : St} {H : Hp} {s : Shared} {E : Value → Shared → Prop}
theorem Inv.wish (I : Inv X pins σ H s) (E : Value → Shared → Prop) : Inv (X.wish E) pins σ H s := ⟨I.ok.wish E, I.os, I.bare, I.base, I.loc, I.cell, I.free, I.freeC, I.pin, I.hok, I.len⟩
theorem Inv.unwish (I : Inv (X.wish E) pins σ H s) : Inv X pins σ H s := ⟨I.ok.unwish, I.os, I.bare, I.base, I.loc, I.cell, I.free, I.freeC, I.pin, I.hok, I.len⟩
theorem SP.unwish {D : Ends} {f : Flow} {s' : Shared} (h : SP (X.wish E) pins D f s') : SP X pins D f s' := by
 cases f with
 | next => obtain ⟨σ', H', I, q⟩ := h; exact ⟨σ', H', I.unwish, q⟩
 | brk => obtain ⟨σ', H', I, q⟩ := h; exact ⟨σ', H', I.unwish, q⟩
 | cont => obtain ⟨σ', H', I, q⟩ := h; exact ⟨σ', H', I.unwish, q⟩
 | ret u => obtain ⟨v, σ', H', I, r, q⟩ := h; exact ⟨v, σ', H', I.unwish, r, q⟩
theorem PSs.nox {st : List Stmt} {t : TS} (h : PSs X.nox st t) : PSs X st t := fun pins s σ H D I hw =>
 wpAny_mono (h pins s σ H D (I.wish _) hw) (fun _ _ q => q.unwish) fun _ _ z => False.elim z
end
section
variable {X : Cx} {st : Stmt} {rest : List Stmt} {t u : TS} {e : Expr} {te : TE} {pos : Pos}
noncomputable def b8T : TS := fun D σ H => D.nx σ H
noncomputable def tSeq (t u : TS) : TS := fun D σ H => t { D with nx := u D } σ H
theorem b6k : PSs X [] b8T := fun _ _ σ H _ I h => wpAny_execs_nil ⟨σ, H, I, h⟩
theorem b4n (h1 : PS X st t) (h2 : PSs X rest u) : PSs X (st :: rest) (tSeq t u) := by
 intro pins s σ H D I h
 refine wpAny_execs_cons (thn (h1 pins s σ H { D with nx := u D } I h) fun f s1 q => ?_)
 cases f with
 | next =>
   obtain ⟨σ', H', I', q⟩ := q
   exact h2 pins s1 σ' H' D I' q
 | ret v => exact q
 | brk => exact q
 | cont => exact q
theorem b6j (h1 : PS X st t) : PSs X [st] t := by
 intro pins s σ H D I h
 refine wpAny_execs_cons (thn (h1 pins s σ H D I h) fun f s1 q => ?_)
 cases f with
 | next => exact wpAny_execs_nil q
 | ret v => exact q
 | brk => exact q
 | cont => exact q
theorem Inv.quiet {pins : List (Addr × Obj)} {σ : St} {H : Hp} {s : Shared} (I : Inv X pins σ H s) : interactive X.env = false := by simp [interactive, I.ok.kind]
noncomputable def b8U (te : TE) : TS := fun D σ H => te σ H fun _ H1 => D.nx σ H1
theorem b6m (he : PE X e te) (hs : swapsWith e none pos.line X.env = pure false := by rfl) : PS X (.Expr e pos) (b8U te) := by
 intro pins s σ H D I h
 exact wpAny_Expr_any (thn (he pins s σ H _ I h) fun v s1 ⟨x, H1, I1, r1, q1⟩ => ⟨σ, H1, I1, q1⟩) I.quiet hs
noncomputable def tRet (te : TE) : TS := fun D σ H => te σ H D.rt
theorem b7S (he : PE X e te) : PS X (.Return (some e) pos) (tRet te) := by
 intro pins s σ H D I h
 exact wpAny_Return_some (thn (he pins s σ H _ I h) fun v s1 ⟨x, H1, I1, r1, q1⟩ => ⟨x, σ, H1, I1, r1, q1⟩)
noncomputable def tIfS (c : TT) (t u : TS) : TS := fun D σ H => c σ H fun b H1 => if b = true then t D σ H1 else u D σ H1
theorem b9l {c : Expr} {a b : List Stmt} {tc : TT} (hc : PT X c tc) (ha : PSs X a t) (hb : PSs X b u) : PS X (.If c a b pos) (tIfS tc t u) := by
 intro pins s σ H D I h
 refine wpAny_If (thn (hc pins s σ H _ I h) fun d s1 ⟨H1, I1, q1⟩ => ?_)
 cases d with
 | true => exact ha pins s1 σ H1 D I1 q1
 | false => exact hb pins s1 σ H1 D I1 q1
end
noncomputable abbrev TG := V → St → Hp → (St → Hp → Prop) → Prop
noncomputable abbrev TGs := List V → St → Hp → (St → Hp → Prop) → Prop
noncomputable def PG (X : Cx) (target : Expr) (t : TG) : Prop :=
 ∀ (pins : List (Addr × Obj)) (s : Shared) (σ : St) (H : Hp) (v : V) (u : Value) (Q : St → Hp → Prop), Inv X pins σ H s → RelV v u → t v σ H Q →
   wpAny (model X.prog X.w) X.A (assign target X.env u) (fun _ s' => ∃ σ' H', Inv X pins σ' H' s' ∧ Q σ' H') X.xe s
noncomputable def PGs (X : Cx) (ts : List Expr) (t : TGs) : Prop :=
 ∀ (pins : List (Addr × Obj)) (s : Shared) (σ : St) (H : Hp) (vs : List V) (us : List Value) (Q : St → Hp → Prop), Inv X pins σ H s → Vals vs us → t vs σ H Q →
   wpAny (model X.prog X.w) X.A (assignInOrder ((assignEach ts X.env).map (·.2)) us) (fun _ s' => ∃ σ' H', Inv X pins σ' H' s' ∧ Q σ' H') X.xe s
noncomputable abbrev TSet := V → V → V → Hp → (Hp → Prop) → Prop
noncomputable def PSet (X : Cx) (t : TSet) : Prop :=
 ∀ (pins : List (Addr × Obj)) (s : Shared) (σ : St) (H : Hp) (o i v : V) (ov iv u : Value) (Q : Hp → Prop), Inv X pins σ H s → RelV o ov → RelV i iv → RelV v u → t o i v H Q →
   wpAny (model X.prog X.w) X.A (setItem ov iv u) (fun _ s' => ∃ H', Inv X pins σ H' s' ∧ Q H') X.xe s
noncomputable abbrev TIp := V → V → Hp → VK → Prop
noncomputable def PIp (X : Cx) (op : Operator) (t : TIp) : Prop :=
 ∀ (pins : List (Addr × Obj)) (s : Shared) (σ : St) (H : Hp) (x y : V) (v u : Value) (Q : VK), Inv X pins σ H s → RelV x v → RelV y u → t x y H Q →
   wpAny (model X.prog X.w) X.A (inplaceOp op v u) (EP X pins σ Q) X.xe s
section
variable {X : Cx} {pos : Pos}
noncomputable def a9c (i : Nat) : TG := fun v σ H Q => Q (σ.set i (some v)) H
theorem a0S {i : Nat} {x : Str} (hN : X.N.Nodup) (hi : X.N[i]? = some x) (hx : Loc X.env.scope x) (hf : X.fn x = true ∨ X.env.scope.names.lookup x = some .local := by first | exact .inl rfl | exact .inr rfl | assumption) : PG X (.Name x pos) (a9c i) := by
 intro pins s σ H v u Q I r h
 exact wpAny_assign_Name (a4S I hN hi hx r (fun s' I' => ⟨_, H, I', h⟩) hf)
noncomputable def gNil : TGs := fun vs σ H Q => vs = [] ∧ Q σ H
noncomputable def b4O (t : TG) (u : TGs) : TGs := fun vs σ H Q => ∃ v r, vs = v :: r ∧ t v σ H fun σ' H' => u r σ' H' Q
theorem a9O : PGs X [] gNil := by
 intro pins s σ H vs us Q I r h
 obtain ⟨e, h⟩ := h
 subst e
 cases r
 exact assignInOrder_nil ⟨σ, H, I, h⟩
theorem a4Y {e : Expr} {es : List Expr} {t : TG} {u : TGs} (h1 : PG X e t) (h2 : PGs X es u)
  (hs : (assignEach (e :: es) X.env).map (·.2) = assign e X.env :: (assignEach es X.env).map (·.2) := by rfl) : PGs X (e :: es) (b4O t u) := by
 intro pins s σ H vs us Q I r h
 obtain ⟨v, vr, e1, h⟩ := h
 subst e1
 cases r with
 | cons r rr =>
   rw [hs]
   refine assignInOrder_cons (thn (h1 pins s σ H _ _ _ I r h) fun _ s1 ⟨σ1, H1, I1, q1⟩ => ?_)
   exact h2 pins s1 σ1 H1 _ _ Q I1 rr q1
noncomputable def gTup (K : PySem.W.Frag) (n : Nat) (t : TGs) : TG := fun v σ H Q => ∃ a xs, v = .ref a ∧ SqT K H a xs ∧ xs.length = n ∧ t xs σ H Q
theorem b2A {es : List Expr} {k : Nat} {t : TGs} {n : Nat} (hc : X.calm = true) (h : PGs X es t)
  (hn : (assignEach es X.env).length = n := by rfl) (hst : (assignEach es X.env).findIdx? (·.1) = none := by rfl) : PG X (.Tuple es k pos) (gTup X.K n t) := by
 intro pins s σ H v u Q I r hw
 obtain ⟨a, xs, e1, hq, hl, hw⟩ := hw
 subst e1
 cases r
 obtain ⟨its, rv, ht, hz⟩ := I.tuple hq
 refine assign_Tuple_tuple (I.ok.hd hc) ht (by simp [hn, ← hl, rv.length]) hst fun h' hx => ?_
 have I1 : Inv X pins σ H { s with heap := h' } := I.kept (t' := s.toks) fun b o e => hx b o (Nat.ne_of_lt (Heap.lt_size e)) e
 exact h pins _ σ H xs _ Q I1 (by simpa using rv) hw
noncomputable def gSub (to ti : TE) (t : TSet) : TG := fun v σ H Q => to σ H fun o H1 => ti σ H1 fun i H2 => t o i v H2 fun H3 => Q σ H3
theorem b7Y {o i : Expr} {to ti : TE} {t : TSet} (ho : PE X o to) (hi : PE X i ti) (hs : PSet X t)
  (ha : ∀ v, assign (.Subscript o i pos) X.env v = (do
   let ov ← holding [v] (eval o X.env)
   let iv ← holding [v, ov] (eval i X.env)
   standAt pos
   holding [v, ov, iv] (setItem ov iv v)
   release [v, ov, iv] []) := by intro _; rfl) : PG X (.Subscript o i pos) (gSub to ti t) := by
 intro pins s σ H v u Q I r h
 rw [ha]
 refine wpAny_bind (wpAny_holding (thn (ho pins s σ H _ I h) fun ov s1 ⟨x, H1, I1, r1, q1⟩ => ?_))
 refine wpAny_bind (wpAny_holding (thn (hi pins s1 σ H1 _ I1 q1) fun iv s2 ⟨y, H2, I2, r2, q2⟩ => ?_))
 refine wpAny_bind (wpAny_standAt (wpAny_bind (wpAny_holding (thn (hs pins s2 σ H2 x y v ov iv u _ I2 r1 r2 r q2) fun _ s3 ⟨H3, I3, q3⟩ => ?_))))
 exact wpAny_release ⟨σ, H3, I3, q3⟩
noncomputable def tAsg (te : TE) (g : TG) : TS := fun D σ H => te σ H fun x H1 => g x σ H1 D.nx
theorem b7W {tg e : Expr} {te : TE} {g : TG} (he : PE X e te) (hg : PG X tg g) (hs : swapsWithSole [tg] e pos.line X.env = pure false := by rfl) (hw : swappedStores [tg] e X.env = pure none := by rfl)
  (h1 : (assignEach [tg] X.env).map (·.2) = [assign tg X.env] := by rfl) : PS X (.Assign [tg] e pos) (tAsg te g) := by
 intro pins s σ H D I h
 refine wpAny_Assign_stores (thn (he pins s σ H _ I h) fun v s1 ⟨x, H1, I1, r1, q1⟩ => ?_) hs hw
 rw [h1]
 exact thn (hg pins s1 σ H1 x v _ I1 r1 q1) fun _ s2 q => q
theorem b7R {i : Nat} {x : Str} {e : Expr} {te : TE} {pos' : Pos} (hN : X.N.Nodup) (hi : X.N[i]? = some x) (hx : Loc X.env.scope x) (he : PE X e te) (hs : swapsWith e (some (.Name x pos')) pos.line X.env = pure false := by rfl) (hf : X.fn x = true ∨ X.env.scope.names.lookup x = some .local := by first | exact .inl rfl | exact .inr rfl | assumption) :
  PS X (.Assign [.Name x pos'] e pos) (tAsg te (a9c i)) := by
 intro pins s σ H D I h
 refine wpAny_Assign_Name (thn (he pins s σ H _ I h) fun v s1 ⟨y, H1, I1, r1, q1⟩ => ?_) hs
 exact a4S I1 hN hi hx r1 (fun s2 I2 => ⟨_, H1, I2, q1⟩) hf
noncomputable def tPar (i j : Nat) (ta : TA) : TS := fun D σ H => ta σ H fun vs H1 => ∃ v w, vs = [v, w] ∧ D.nx ((σ.set i (some v)).set j (some w)) H1
theorem b7T {i j : Nat} {x y : Str} {a b : Expr} {ta : TA} {px py pt : Pos} {kt k2 pt2} (hc : X.calm = true) (hN : X.N.Nodup) (hi : X.N[i]? = some x) (hj : X.N[j]? = some y) (hij : i ≠ j)
  (hx : X.env.scope.names.lookup x = some .local) (hy : X.env.scope.names.lookup y = some .local) (ha : PA X [a, b] ta)
  (hw : swappedStores [.Tuple [.Name x px, .Name y py] kt pt] (.Tuple [a, b] k2 pt2) X.env = pure (some [x, y]))
  (hs : swapsWithSole [.Tuple [.Name x px, .Name y py] kt pt] (.Tuple [a, b] k2 pt2) pos.line X.env = pure false := by rfl) :
  PS X (.Assign [.Tuple [.Name x px, .Name y py] kt pt] (.Tuple [a, b] k2 pt2) pos) (tPar i j ta) := by
 intro pins s σ H D I h
 rw [exec_Assign_arm]
 refine wpAny_bind (wpAny_standAt ?_)
 rw [hs]
 refine wpAny_bind (wpAny_pure ?_)
 rw [if_neg (by decide)]
 refine wpAny_bind (Tuple_ (thn (ha _ pins s σ H _ I h) fun us s1 ⟨vs, H1, I1, r1, q1⟩ => ?_))
 obtain ⟨v, w, e1, q1⟩ := q1
 subst e1
 obtain ⟨u1, u2, rfl, rv, rw'⟩ : ∃ u1 u2, us = [u1, u2] ∧ RelV v u1 ∧ RelV w u2 := by
  cases r1 with
  | cons p q =>
    cases q with
    | cons p' q' =>
      cases q'
      exact ⟨_, _, rfl, p, p'⟩
 refine wpAny_newObj_type ?_ (by show 2 ≤ sizeLine; decide)
 have I2 : Inv X pins σ H1 { s1 with heap := s1.heap.push { cls := .type "tuple", data := .seq [u1, u2].toArray } } := I1.kept (t' := s1.toks) fun b o e => Heap.get?_push_of_some _ e
 rw [hw]
 refine wpAny_bind (wpAny_pure ?_)
 show wpAny (model X.prog X.w) X.A (do rule "assign.swapped-stores"; let items ← unpackItems (.ref s1.heap.objs.size) 2 none; assignInOrder [fun v => bindName X.env y v, fun v => bindName X.env x v] items.reverse; pure Flow.next) _ _ _
 refine wpAny_bind (wpAny_rule (wpAny_bind (unpackItems_tuple (items := #[u1, u2]) (I.ok.hd hc) (IsTup.new s1.heap _) fun h' hx' => ?_)))
 have I3 := I2.kept (h' := h') (t' := s1.toks) fun b o e => hx' b o (Nat.ne_of_lt (Heap.lt_size e)) e
 show wpAny _ _ (assignInOrder [fun v => bindName X.env y v, fun v => bindName X.env x v] [u2, u1] >>= fun _ => pure Flow.next) _ _ _
 refine wpAny_bind (assignInOrder_cons (wpAny_bindName (a4S I3 hN hj (.inl hy) rw' (fun s2 I4 => ?_) (.inr hy))))
 refine assignInOrder_cons (wpAny_bindName (a4S I4 hN hi (.inl hx) rv (fun s3 I5 => assignInOrder_nil (wpAny_pure ?_)) (.inr hx)))
 rw [List.set_comm _ _ (Ne.symm hij)] at I5
 exact ⟨_, H1, I5, q1⟩
noncomputable def tAug (i : Nat) (te : TE) (ti : TIp) : TS := fun D σ H => ∃ x, σ[i]? = some (some x) ∧ te σ H fun y H1 => ti x y H1 fun z H2 => D.nx (σ.set i (some z)) H2
theorem b7V {i : Nat} {x : Str} {e : Expr} {te : TE} {op : Operator} {ti : TIp} {pos' : Pos} (hN : X.N.Nodup) (hi : X.N[i]? = some x) (hx : Loc X.env.scope x) (he : PE X e te) (ho : PIp X op ti) (hf : X.fn x = true ∨ X.env.scope.names.lookup x = some .local := by first | exact .inl rfl | exact .inr rfl | assumption) :
  PS X (.AugAssign (.Name x pos') op e pos) (tAug i te ti) := by
 intro pins s σ H D I h
 obtain ⟨v, e1, h⟩ := h
 obtain ⟨m, hn, hl⟩ := I.loc
 have vis : Vis X.env.scope x := by rcases hx with k | k; exact .inl k; exact .inr (.inl k)
 obtain ⟨u, r, l⟩ := hl i x v hi e1 vis
 refine wpAny_AugAssign_Name ?_
 have go : wpAny (model X.prog X.w) X.A (eval e X.env) (fun w s₂ => wpAny (model X.prog X.w) X.A (inplaceOp op u w) (fun r s₃ => wpAny (model X.prog X.w) X.A (storeName X.env x r) (fun _ => SP X pins D .next) X.xe s₃) X.xe s₂) X.xe s := by
  refine thn (he pins s σ H _ I h) fun w s1 ⟨y, H1, I1, r1, q1⟩ => ?_
  refine thn (ho pins s1 σ H1 v y u w _ I1 r r1 q1) fun z s2 ⟨zv, H2, I2, r2, q2⟩ => ?_
  exact a4S I2 hN hi hx r2 (fun s3 I3 => ⟨_, H2, I3, q2⟩) hf
 rcases l with ⟨hk, hm⟩ | ⟨hk, c, hc, hcell⟩
 ·exact wpAny_loadName_local I.ok.kind hk hn hm go
 ·rcases hk with hk | hk
  ·exact wpAny_loadName_cell I.ok.kind hk hc hcell go
  ·rcases hx with k | k
   ·have : X.env.scope.names.lookup x = some .free := hk
    rw [k] at this; cases this
   ·have : X.env.scope.names.lookup x = some .free := hk
    rw [k] at this; cases this
noncomputable def b8Y (to ti te : TE) (tget : V → V → Hp → VK → Prop) (tip : TIp) (tset : TSet) : TS := fun D σ H => to σ H fun o H1 => ti σ H1 fun i H2 => tget o i H2 fun x H3 => te σ H3 fun y H4 => tip x y H4 fun z H5 => tset o i z H5 fun H6 => D.nx σ H6
noncomputable def PGet (X : Cx) (t : V → V → Hp → VK → Prop) : Prop :=
 ∀ (pins : List (Addr × Obj)) (s : Shared) (σ : St) (H : Hp) (o i : V) (ov iv : Value) (Q : VK), Inv X pins σ H s → RelV o ov → RelV i iv → t o i H Q →
   wpAny (model X.prog X.w) X.A (getItem ov iv) (EP X pins σ Q) X.xe s
theorem b6o {o i e : Expr} {to ti te : TE} {tget : V → V → Hp → VK → Prop} {tip : TIp} {tset : TSet} {op : Operator} {tpos : Pos} (ho : PE X o to) (hi : PE X i ti) (hg : PGet X tget) (he : PE X e te) (hp : PIp X op tip) (hs : PSet X tset)
  (ha : ∀ ov iv new, augStore i ov iv new = (do holding [new, ov, iv] (setItem ov iv new); release [new, ov, iv] []; pure .next) := by intros; rfl) : PS X (.AugAssign (.Subscript o i tpos) op e pos) (b8Y to ti te tget tip tset) := by
 intro pins s σ H D I h
 refine wpAny_AugAssign_SubscriptAny (thn (ho pins s σ H _ I h) fun ov s1 ⟨x1, H1, I1, r1, q1⟩ => ?_) ha
 refine thn (hi pins s1 σ H1 _ I1 q1) fun iv s2 ⟨x2, H2, I2, r2, q2⟩ => ?_
 refine thn (hg pins s2 σ H2 x1 x2 ov iv _ I2 r1 r2 q2) fun old s3 ⟨x3, H3, I3, r3, q3⟩ => ?_
 refine thn (he pins s3 σ H3 _ I3 q3) fun v s4 ⟨x4, H4, I4, r4, q4⟩ => ?_
 refine thn (hp pins s4 σ H4 x3 x4 old v _ I4 r3 r4 q4) fun new s5 ⟨x5, H5, I5, r5, q5⟩ => ?_
 exact thn (hs pins s5 σ H5 x1 x2 x5 ov iv new _ I5 r1 r2 r5 q5) fun _ s6 ⟨H6, I6, q6⟩ => ⟨σ, H6, I6, q6⟩
noncomputable def ipI (f : Int → Int → Int) : TIp := fun x y H Q => ∃ i j, x = .int i ∧ y = .int j ∧ Q (.int (f i j)) H
theorem b8A : PIp X .Add (ipI fun i j => i + j) := by
 intro pins s σ H x y v u Q I r1 r2 h
 obtain ⟨i, j, e1, e2, q⟩ := h
 subst e1; subst e2
 obtain ⟨t, rfl⟩ := r1
 obtain ⟨t', rfl⟩ := r2
 exact iadd_int ⟨.int _, H, I.tok _, ⟨_, rfl⟩, q⟩
theorem b8z : PIp X .Sub (ipI fun i j => i - j) := by
 intro pins s σ H x y v u Q I r1 r2 h
 obtain ⟨i, j, e1, e2, q⟩ := h
 subst e1; subst e2
 obtain ⟨t, rfl⟩ := r1
 obtain ⟨t', rfl⟩ := r2
 exact isub_int ⟨.int _, H, I.tok _, ⟨_, rfl⟩, q⟩
end
section
variable {X : Cx} {pos : Pos}
end
structure It where
 go : Nat → Hp → Prop
 yld : Nat → Hp → V → Hp → Prop
 stop : Nat → Hp → Prop
noncomputable def FpOk (X : Cx) (pins : List (Addr × Obj)) (H : Hp) (b : Addr) : Prop :=
 H b = none ∧ b ≠ X.env.locals ∧ b ∉ X.fs ∧ (b ∈ X.ex ∨ X.s₀.heap.objs.size ≤ b) ∧ (∀ x c, X.env.cells.lookup x = some c → c ≠ b) ∧ ∀ p ∈ X.pn ++ pins, p.1 ≠ b
theorem Inv.fpOk {X : Cx} {pins : List (Addr × Obj)} {σ : St} {H H' : Hp} {s : Shared} {b : Addr} (I : Inv X pins σ H s) (hb : s.heap.objs.size ≤ b) (hn : H' b = none) : FpOk X pins H' b := by
 refine ⟨hn, Nat.ne_of_gt (Nat.lt_of_lt_of_le I.lt hb), I.nofs hb, .inr (Nat.le_trans I.sz hb), fun x c e z => ?_, fun p hp z => ?_⟩
 ·obtain ⟨v, q⟩ := I.cell x c e
  exact absurd (Nat.lt_of_lt_of_le q.lt (by rw [z]; exact hb)) (Nat.lt_irrefl _)
 ·exact absurd (Nat.lt_of_lt_of_le (Heap.lt_size (I.pin p hp).1) (by rw [z]; exact hb)) (Nat.lt_irrefl _)
structure Turn (P : Program) (w : World) (K : PySem.W.Frag) (tg : Expr) (J : It) (fp : List Addr) (it : Addr) (tn : Nat → Heap → Prop) : Prop where
 mem : it ∈ fp
 obj : ∀ i h, tn i h → ∀ b ∈ fp, ∃ o, h.get? b = some o ∧ ∀ v, o.data ≠ .cell v
 keep : ∀ i h h', tn i h → (∀ b ∈ fp, ∀ o, h.get? b = some o → h'.get? b = some o) → tn i h'
 item : ∀ (X : Cx), X.prog = P → X.w = w → X.K = K → X.calm = true → ∀ (i : Nat) (pins : List (Addr × Obj)) (s : Shared) (σ : St) (H : Hp) (E : Value → Shared → Prop), Inv X pins σ H s → (∀ b ∈ fp, FpOk X pins H b) → tn i s.heap → J.go i H →
  wpAny (model P w) X.A (pyNext (.ref it)) (fun r s1 => ∃ u, r = some u ∧
   wpAny (model P w) X.A (letOwnedTupleGo tg (.ref it) u) (fun _ s2 => ∃ x H', Inv X pins σ H' s2 ∧ RelV x u ∧ J.yld i H x H' ∧ tn (i + 1) s2.heap ∧ ∀ b ∈ fp, H' b = none) E s1) E s
 done : ∀ (X : Cx), X.prog = P → X.w = w → X.K = K → X.calm = true → ∀ (i : Nat) (pins : List (Addr × Obj)) (s : Shared) (σ : St) (H : Hp) (E : Value → Shared → Prop), Inv X pins σ H s → (∀ b ∈ fp, FpOk X pins H b) → tn i s.heap → J.stop i H →
  wpAny (model P w) X.A (pyNext (.ref it)) (fun r s1 => r = none ∧ Inv X pins σ H s1) E s
 self : ∀ (A : Around) (i : Nat) (s : Shared) (Q : Value → Shared → Prop) (E : Value → Shared → Prop), tn i s.heap → Q (.ref it) s → wpAny (model P w) A (pyIter (.ref it)) Q E s
noncomputable abbrev TI := St → Hp → (It → Hp → Prop) → Prop
noncomputable def PIE (X : Cx) (pins : List (Addr × Obj)) (σ : St) (tg : Expr) (R : It → Hp → Prop) (itv : Value) (s2 : Shared) : Prop :=
 ∃ (it : Addr) (fp : List Addr) (tn : Nat → Heap → Prop) (J : It) (H' : Hp), itv = .ref it ∧ Inv X pins σ H' s2 ∧ Turn X.prog X.w X.K tg J fp it tn ∧ tn 0 s2.heap ∧ (∀ b ∈ fp, FpOk X pins H' b) ∧ R J H'
noncomputable def PI (X : Cx) (tg iter : Expr) (wi : TI) : Prop :=
 ∀ (pins : List (Addr × Obj)) (s : Shared) (σ : St) (H : Hp) (R : It → Hp → Prop), Inv X pins σ H s → wi σ H R →
   wpAny (model X.prog X.w) X.A (eval iter X.env) (fun v s1 => wpAny (model X.prog X.w) X.A (pyIter v) (PIE X pins σ tg R) X.xe s1) X.xe s
theorem b6N {M : Model} {A : Around} {E : Value → Shared → Prop} {s : Shared} {tg : Expr} {it : Addr} {u : Value} {o : Obj} {n : String} {vs : Array Value} {Q : Unit → Shared → Prop} (ho : s.heap.get? it = some o) (hc : o.cls = .type n) (hd : o.data = .fields vs)
  (hn : ["enumerate", "zip", "dict_itemiterator", "dict_reverseitemiterator", "odict_iterator", "itertools.zip_longest", "itertools.pairwise"].contains n = false) (hQ : Q () s) : wpAny M A (letOwnedTupleGo tg (.ref it) u) Q E s := by
 unfold letOwnedTupleGo
 cases tg <;> first
  | exact wpAny_pure hQ
  | (cases u <;> first
    | exact wpAny_pure hQ
    | (refine wpAny_bind (wpAny_load ho ?_)
       rw [hc, hd]
       show wpAny M A (if (["enumerate", "zip", "dict_itemiterator", "dict_reverseitemiterator", "odict_iterator", "itertools.zip_longest", "itertools.pairwise"].contains n && vs[0]? == some (rawInt _)) = true then _ else _) Q E s
       rw [if_neg (by intro h; rw [hn, Bool.false_and] at h; cases h)]
       exact wpAny_pure hQ))
noncomputable def Itl (K : PySem.W.Frag) (a : Addr) : It :=
 ⟨fun i H => ∃ xs x, SqL K H a xs ∧ xs[i]? = some x, fun i H x H' => H' = H ∧ ∀ xs, SqL K H a xs → xs[i]? = some x, fun i H => ∃ xs, SqL K H a xs ∧ xs.length ≤ i⟩
noncomputable def Itt (K : PySem.W.Frag) (a : Addr) : It :=
 ⟨fun i H => ∃ xs x, SqT K H a xs ∧ xs[i]? = some x, fun i H x H' => H' = H ∧ ∀ xs, SqT K H a xs → xs[i]? = some x, fun i H => ∃ xs, SqT K H a xs ∧ xs.length ≤ i⟩
noncomputable def Itr (lo : Int) (n : Nat) : It := ⟨fun i _ => i < n, fun i H x H' => H' = H ∧ x = .int (lo + i), fun i _ => n ≤ i⟩
theorem b2a {P : Program} {w : World} {K : PySem.W.Frag} {tg : Expr} (a it : Addr) : Turn P w K tg (Itl K a) [it] it (fun i h => h.IsListIter it a i) where
 mem := by simp
 obj := fun i h st b hb => by
  have e : b = it := by simpa using hb
  subst e
  obtain ⟨o, e, c, d⟩ := st
  exact ⟨o, e, fun v z => by rw [d] at z; cases z⟩
 keep := fun i h h' st k => st.at fun o e => k it (by simp) o e
 item := by
  intro X hP hw hK hc i pins s σ H E I hf st hg
  subst hP hw hK
  obtain ⟨xs, x, hq, hx⟩ := hg
  obtain ⟨its, rv, p, hz⟩ := I.list hq
  obtain ⟨u, hu, ru⟩ := rv.get hx
  obtain ⟨f0, f1, f2, f3, f4, f5⟩ := hf it (by simp)
  refine wpAny_pyNext_list_item st p.isList (x := u) (by simpa using hu) fun h' st' sb => ?_
  have I1 : Inv X pins σ H { s with heap := h' } := I.turned (t' := s.toks) (fun b o hb e => (sb.2 b hb).trans e) f0 f1 f3 f4 f5
  obtain ⟨o, e, c, d⟩ := id st'
  exact ⟨u, rfl, b6N (s := { s with heap := h' }) e c d (by decide) ⟨x, H, I1, ru, ⟨rfl, fun ys hy => by rw [I.list_inj hy hq]; exact hx⟩, st', fun b hb => (hf b hb).1⟩⟩
 done := by
  intro X hP hw hK hc i pins s σ H E I hf st hg
  subst hP hw hK
  obtain ⟨xs, hq, hx⟩ := hg
  obtain ⟨its, rv, p, hz⟩ := I.list hq
  obtain ⟨f0, f1, f2, f3, f4, f5⟩ := hf it (by simp)
  have hl := rv.length
  exact wpAny_pyNext_list_end (I.ok.hd hc) st p.isList (by simp; lia) fun h' eb => ⟨rfl, I.turned (t' := s.toks) (fun b o hb e => eb b o hb e) f0 f1 f3 f4 f5⟩
 self := fun _ _ _ _ _ st h => wpAny_pyIter_listiter st h
theorem b1j {P : Program} {w : World} {K : PySem.W.Frag} {tg : Expr} (a it : Addr) : Turn P w K tg (Itt K a) [it] it (fun i h => h.IsTupleIter it a i) where
 mem := by simp
 obj := fun i h st b hb => by
  have e : b = it := by simpa using hb
  subst e
  obtain ⟨o, e, c, d⟩ := st
  exact ⟨o, e, fun v z => by rw [d] at z; cases z⟩
 keep := fun i h h' st k => st.at fun o e => k it (by simp) o e
 item := by
  intro X hP hw hK hc i pins s σ H E I hf st hg
  subst hP hw hK
  obtain ⟨xs, x, hq, hx⟩ := hg
  obtain ⟨its, rv, p, hz⟩ := I.tuple hq
  obtain ⟨u, hu, ru⟩ := rv.get hx
  obtain ⟨f0, f1, f2, f3, f4, f5⟩ := hf it (by simp)
  refine wpAny_pyNext_tuple_item st (show s.heap.IsTuple a its.toArray from p) (x := u) (by simpa using hu) fun h' st' sb => ?_
  have I1 : Inv X pins σ H { s with heap := h' } := I.turned (t' := s.toks) (fun b o hb e => (sb.2 b hb).trans e) f0 f1 f3 f4 f5
  obtain ⟨o, e, c, d⟩ := id st'
  exact ⟨u, rfl, b6N (s := { s with heap := h' }) e c d (by decide) ⟨x, H, I1, ru, ⟨rfl, fun ys hy => by rw [I.tuple_inj hy hq]; exact hx⟩, st', fun b hb => (hf b hb).1⟩⟩
 done := by
  intro X hP hw hK hc i pins s σ H E I hf st hg
  subst hP hw hK
  obtain ⟨xs, hq, hx⟩ := hg
  obtain ⟨its, rv, p, hz⟩ := I.tuple hq
  obtain ⟨f0, f1, f2, f3, f4, f5⟩ := hf it (by simp)
  have hl := rv.length
  exact wpAny_pyNext_tuple_end (I.ok.hd hc) st (show s.heap.IsTuple a its.toArray from p) (by simp; lia) fun h' eb => ⟨rfl, I.turned (t' := s.toks) (fun b o hb e => eb b o hb e) f0 f1 f3 f4 f5⟩
 self := fun _ _ _ _ _ st h => wpAny_pyIter_tupleiter st h
theorem b1k {P : Program} {w : World} {K : PySem.W.Frag} {tg : Expr} (it : Addr) (lo : Int) (n : Nat) : Turn P w K tg (Itr lo n) [it] it (fun i h => IsRangeIter h it (lo + (i : Nat) * 1) ((n : Int) - (i : Nat)) 1) where
 mem := by simp
 obj := fun i h st b hb => by
  have e : b = it := by simpa using hb
  subst e
  exact ⟨_, st, fun v z => by
   have z' : Data.fields _ = Data.cell v := z
   cases z'⟩
 keep := fun i h h' st k => k it (by simp) _ st
 item := by
  intro X hP hw hK hc i pins s σ H E I hf st hg
  subst hP hw hK
  obtain ⟨f0, f1, f2, f3, f4, f5⟩ := hf it (by simp)
  have W := Walks.range (prog := X.prog) (w := X.w) (I.ok.hd hc) it lo 1 n
  refine W.item i s _ _ hg st fun v h' tk hv st' kk => ?_
  obtain ⟨t, rfl⟩ := hv
  have I1 : Inv X pins σ H { s with heap := h', toks := tk } := I.turned (fun b o hb e => kk b o (by simpa using hb) e) f0 f1 f3 f4 f5
  refine ⟨_, rfl, b6N (s := { s with heap := h', toks := tk }) (n := "range_iterator") st' rfl rfl (by decide) ⟨.int (lo + i), H, I1, ⟨t, ?_⟩, ⟨rfl, rfl⟩, st', fun b hb => (hf b hb).1⟩⟩
  rw [Int.mul_one]
 done := by
  intro X hP hw hK hc i pins s σ H E I hf st hg
  subst hP hw hK
  obtain ⟨f0, f1, f2, f3, f4, f5⟩ := hf it (by simp)
  exact wpAny_pyNext_range_end (I.ok.hd hc) st (by have : n ≤ i := hg; lia) fun h' eb => ⟨rfl, I.turned (t' := s.toks) (fun b o hb e => eb b o hb e) f0 f1 f3 f4 f5⟩
 self := fun _ _ _ _ _ st h => wpAny_pyIter_rangeiter st h
section
variable {X : Cx} {tg : Expr}
theorem b0D {pins : List (Addr × Obj)} {σ : St} {H : Hp} {s : Shared} {R : It → Hp → Prop} {E : Value → Shared → Prop} {lo hi : Int} {t u v : Tok} {tk : Nat} (I : Inv X pins σ H s) (h1 : -(2 ^ 62) ≤ lo) (h2 : lo < 2 ^ 62) (h3 : -(2 ^ 62) ≤ hi) (h4 : hi < 2 ^ 62)
  (q : R (Itr lo (hi - lo).toNat) H) : wpAny (model X.prog X.w) X.A (pyIter (.ref s.heap.objs.size)) (PIE X pins σ tg R) E { s with heap := s.heap.push { cls := .type "range", data := .fields #[.int lo t, .int hi u, .int 1 v] }, toks := tk } := by
 refine wpAny_pyIter_range (IsRange.new ..) (small_one h1 h2 h3 h4) ?_
 have I1 : Inv X pins σ H { s with heap := s.heap.push { cls := .type "range", data := .fields #[.int lo t, .int hi u, .int 1 v] }, toks := tk } := I.kept fun b o e => Heap.get?_push_of_some _ e
 refine ⟨(s.heap.push { cls := .type "range", data := .fields #[.int lo t, .int hi u, .int 1 v] }).objs.size, [(s.heap.push { cls := .type "range", data := .fields #[.int lo t, .int hi u, .int 1 v] }).objs.size], _, _, H, rfl,
  I1.kept (t' := tk) fun b o e => Heap.get?_push_of_some _ e, b1k _ lo (hi - lo).toNat, ?_, fun b hb => ?_, q⟩
 ·have e1 : lo + ((0 : Nat) : Int) * 1 = lo := by simp
  have e2 : (((hi - lo).toNat : Nat) : Int) - ((0 : Nat) : Int) = Builtin.Range.rangeSize lo hi 1 := by rw [rangeSize_one]; split <;> lia
  show IsRangeIter _ _ (lo + ((0 : Nat) : Int) * 1) ((((hi - lo).toNat : Nat) : Int) - ((0 : Nat) : Int)) 1
  rw [e1, e2]
  exact Heap.get?_push_size _ rfl
 ·have e : b = (s.heap.push { cls := .type "range", data := .fields #[.int lo t, .int hi u, .int 1 v] }).objs.size := by simpa using hb
  subst e
  exact I1.fpOk (Nat.le_refl _) (I1.hok.fresh (Nat.le_refl _))
noncomputable def b9E (ta : TA) : TI := fun σ H R => ta σ H fun vs H1 => ∃ j : Int, vs = [.int j] ∧ -(2 ^ 62) ≤ j ∧ j < 2 ^ 62 ∧ R (Itr 0 j.toNat) H1
noncomputable def b9D (ta : TA) : TI := fun σ H R => ta σ H fun vs H1 => ∃ i j : Int, vs = [.int i, .int j] ∧ (-(2 ^ 62) ≤ i ∧ i < 2 ^ 62 ∧ -(2 ^ 62) ≤ j ∧ j < 2 ^ 62) ∧ R (Itr i (j - i).toNat) H1
theorem b2z {a : Expr} {ta : TA} {p pos : Pos} (hg : Gl X "range") (hm : X.mg "range" = none) (ha : PA X [a] ta) (hs : starEach [a] X.env = [(false, eval a X.env)] := by rfl) : PI X tg (.Call (.Name "range" p) [a] [] pos) (b9E ta) := by
 intro pins s σ H R I h
 refine Call_ (a5F I hg hm boot_range (PyProof.Rows.callWith_type1 (thn (ha pos pins s σ H _ I h) fun us s1 ⟨vs, H1, I1, r1, q1⟩ => ?_) hs rfl))
 obtain ⟨j, e, q1, q2, q⟩ := q1
 subst e
 cases r1 with
 | cons r rr =>
   cases rr
   obtain ⟨t, rfl⟩ := r
   exact call_range_1 (b0D I1 (by lia) (by lia) q1 q2 (by simpa using q))
theorem b2y {a b : Expr} {ta : TA} {p pos : Pos} (hg : Gl X "range") (hm : X.mg "range" = none) (ha : PA X [a, b] ta) (hs : starEach [a, b] X.env = [(false, eval a X.env), (false, eval b X.env)] := by rfl) (hs2 : starEach [b] X.env = [(false, eval b X.env)] := by rfl) :
  PI X tg (.Call (.Name "range" p) [a, b] [] pos) (b9D ta) := by
 intro pins s σ H R I h
 refine Call_ (a5F I hg hm boot_range (PyProof.Rows.callWith_type1 (thn (ha pos pins s σ H _ I h) fun us s1 ⟨vs, H1, I1, r1, q1⟩ => ?_) (by rw [hs, hs2]) (by rw [hs2]; rfl)))
 obtain ⟨i, j, e, ⟨q1, q2, q3, q4⟩, q⟩ := q1
 subst e
 cases r1 with
 | cons r rr =>
   cases rr with
   | cons r' rr =>
     cases rr
     obtain ⟨t, rfl⟩ := r
     obtain ⟨t', rfl⟩ := r'
     exact call_range_2 (b0D I1 q1 q2 q3 q4 q)
noncomputable def tFor (wi : TI) (g : TG) (tb : TS) : TS := fun D σ H => wi σ H fun J H1 => ∃ W : Nat → Nat → St → Hp → Prop, (∃ m, W 0 m σ H1) ∧ ∀ i m σ H, W i m σ H →
 (J.stop i H ∧ D.nx σ H) ∨ (J.go i H ∧ ∃ N : St → Hp → Prop, (∀ σ' H', N σ' H' → ∃ m', m' < m ∧ W (i + 1) m' σ' H') ∧ ∀ x H', J.yld i H x H' → g x σ H' fun σ2 H2 => tb { D with nx := N, ct := N, bk := D.nx } σ2 H2)
noncomputable def a7e (fp : List Addr) (h : Heap) : List (Addr × Obj) := fp.filterMap fun b => (h.get? b).map fun o => (b, o)
theorem a4n {fp : List Addr} {h : Heap} {b : Addr} {o : Obj} (hb : b ∈ fp) (e : h.get? b = some o) : (b, o) ∈ a7e fp h := List.mem_filterMap.mpr ⟨b, hb, by rw [e]; rfl⟩
theorem b2K {fp : List Addr} {h : Heap} {p : Addr × Obj} (hp : p ∈ a7e fp h) : p.1 ∈ fp ∧ h.get? p.1 = some p.2 := by
 obtain ⟨b, hb, e⟩ := List.mem_filterMap.mp hp
 cases q : h.get? b with
 | none => rw [q] at e; cases e
 | some o =>
   rw [q] at e
   have e' : (b, o) = p := Option.some.inj e
   subst e'
   exact ⟨hb, q⟩
theorem Inv.pinned {pins : List (Addr × Obj)} {σ : St} {H : Hp} {s : Shared} {fp : List Addr} (I : Inv X pins σ H s) (hf : ∀ b ∈ fp, FpOk X pins H b) (ho : ∀ b ∈ fp, ∃ o, s.heap.get? b = some o ∧ ∀ v, o.data ≠ .cell v) : Inv X (pins ++ a7e fp s.heap) σ H s :=
 I.pins_of fun p hp => (List.mem_append.mp hp).elim (fun z => I.pin p (List.mem_append_right _ z)) fun z => by
  obtain ⟨hb, e⟩ := b2K z
  obtain ⟨f0, f1, f2, _⟩ := hf p.1 hb
  obtain ⟨o, e', d⟩ := ho p.1 hb
  rw [e] at e'; cases e'
  exact ⟨e, f0, f1, f2, d⟩
theorem Inv.unpinned {pins pl : List (Addr × Obj)} {σ : St} {H : Hp} {s : Shared} (I : Inv X (pins ++ pl) σ H s) : Inv X pins σ H s := I.pins_of fun p hp => I.pin p (List.mem_append_right _ (List.mem_append_left _ hp))
theorem b7U {iter : Expr} {body : List Stmt} {wi : TI} {g : TG} {tb : TS} {pos : Pos} (hp : PassesOwn (model X.prog X.w) X.A X.env X.xe) (hc : X.calm = true) (hi : PI X tg iter wi) (hg : PG X tg g) (hb : PSs X body tb)
  (hs : ∀ x, foldedSetIterable iter X.env x = pure x := by intro _; rfl) : PS X (.For tg iter body [] pos) (tFor wi g tb) := by
 intro pins s σ H D I h
 refine wpAny_For (thn (hi pins s σ H _ I h) fun v s1 h1 => thn h1 fun itv s2 h2 => ?_) hs
 obtain ⟨it, fp, tn, J, H2, e, I2, T, st2, f2, W, ⟨m0, w0⟩, turn⟩ := h2
 subst e
 -- what stays true of the iterator's objects through the loop
 have stat : ∀ {H' : Hp}, (∀ b ∈ fp, H' b = none) → ∀ b ∈ fp, FpOk X pins H' b := fun hn b hb => ⟨hn b hb, (f2 b hb).2⟩
 refine codeAny_forLoop_any (fun n s' => ∃ i σ' H', Inv X pins σ' H' s' ∧ tn i s'.heap ∧ (∀ b ∈ fp, H' b = none) ∧ W i n σ' H') ?_ m0 ⟨0, σ, H2, I2, st2, fun b hb => (f2 b hb).1, w0⟩
 rintro n s3 ⟨i, σ3, H3, I3, st3, fr3, w3⟩
 rcases turn i n σ3 H3 w3 with ⟨stop, qn⟩ | ⟨go, N, hN, step⟩
 ·refine wpAny_passesOwn hp (thn (T.done X rfl rfl rfl hc i pins s3 σ3 H3 X.xe I3 (stat fr3) st3 stop) fun r s4 ⟨hr, I4⟩ => ?_)
  subst hr
  exact wpAny_execs_nil ⟨σ3, H3, I4, qn⟩
 ·refine wpAny_passesOwn hp (thn (T.item X rfl rfl rfl hc i pins s3 σ3 H3 X.xe I3 (stat fr3) st3 go) fun r s4 ⟨u, hr, h4⟩ => ?_)
  subst hr
  refine wpAny_passesOwn hp (thn h4 fun _ s5 ⟨x, H5, I5, r5, y5, st5, fr5⟩ => ?_)
  have I5' := I5.pinned (stat fr5) (T.obj _ _ st5)
  refine wpAny_passesOwn hp (thn (hg _ s5 σ3 H5 x u _ I5' r5 (step x H5 y5)) fun _ s6 ⟨σ6, H6, I6, q6⟩ => ?_)
  refine wpAny_passesOwn hp (thn (hb _ s6 σ6 H6 _ I6 q6) fun f s7 q7 => ?_)
  have again : ∀ {σ7 : St} {H7 : Hp}, Inv X (pins ++ a7e fp s5.heap) σ7 H7 s7 → N σ7 H7 → ∃ m, m < n ∧ ∃ i σ' H', Inv X pins σ' H' s7 ∧ tn i s7.heap ∧ (∀ b ∈ fp, H' b = none) ∧ W i m σ' H' := fun {σ7 H7} I7 n7 => by
   obtain ⟨m', hm, w7⟩ := hN σ7 H7 n7
   refine ⟨m', hm, i + 1, σ7, H7, I7.unpinned, T.keep _ _ _ st5 fun b hb o e => (I7.pin (b, o) (List.mem_append_right _ (List.mem_append_right _ (a4n hb e)))).1, fun b hb => ?_, w7⟩
   obtain ⟨o, e, d⟩ := T.obj _ _ st5 b hb
   exact (I7.pin (b, o) (List.mem_append_right _ (List.mem_append_right _ (a4n hb e)))).2.1
  cases f with
  | next => obtain ⟨σ7, H7, I7, n7⟩ := q7; exact again I7 n7
  | cont => obtain ⟨σ7, H7, I7, n7⟩ := q7; exact again I7 n7
  | brk => obtain ⟨σ7, H7, I7, q7⟩ := q7; exact ⟨σ7, H7, I7.unpinned, q7⟩
  | ret v => obtain ⟨x7, σ7, H7, I7, r7, q7⟩ := q7; exact ⟨x7, σ7, H7, I7.unpinned, r7, q7⟩
end
noncomputable abbrev R2 := V → V → Hp → VK → Prop
noncomputable def OpR (X : Cx) (f : Value → Value → Sem Value) (r : R2) : Prop :=
 ∀ (pins : List (Addr × Obj)) (s : Shared) (σ : St) (H : Hp) (x y : V) (v u : Value) (Q : VK), Inv X pins σ H s → RelV x v → RelV y u → r x y H Q →
   wpAny (model X.prog X.w) X.A (f v u) (EP X pins σ Q) X.xe s
noncomputable def UnR (X : Cx) (f : Value → Sem Value) (r : V → Hp → VK → Prop) : Prop :=
 ∀ (pins : List (Addr × Obj)) (s : Shared) (σ : St) (H : Hp) (x : V) (v : Value) (Q : VK), Inv X pins σ H s → RelV x v → r x H Q →
   wpAny (model X.prog X.w) X.A (f v) (EP X pins σ Q) X.xe s
noncomputable def a6R (X : Cx) (f : Value) (r : List V → Hp → VK → Prop) : Prop :=
 ∀ (pins : List (Addr × Obj)) (s : Shared) (σ : St) (H : Hp) (xs : List V) (us : List Value) (Q : VK), Inv X pins σ H s → Vals xs us → r xs H Q →
   wpAny (model X.prog X.w) X.A (call f us) (EP X pins σ Q) X.xe s
noncomputable def TruR (X : Cx) (r : V → Hp → (Bool → Hp → Prop) → Prop) : Prop :=
 ∀ (pins : List (Addr × Obj)) (s : Shared) (σ : St) (H : Hp) (x : V) (v : Value) (Q : Bool → Hp → Prop), Inv X pins σ H s → RelV x v → r x H Q →
   wpAny (model X.prog X.w) X.A (truthy v) (TP X pins σ Q) X.xe s
noncomputable def tOp (r : R2) (ta tb : TE) : TE := fun σ H Q => ta σ H fun x H1 => tb σ H1 fun y H2 => r x y H2 Q
noncomputable def tUn (r : V → Hp → VK → Prop) (ta : TE) : TE := fun σ H Q => ta σ H fun x H1 => r x H1 Q
noncomputable def rI (C : Int → Int → Prop) (g : Int → Int → V) : R2 := fun x y H Q => ∃ i j, x = .int i ∧ y = .int j ∧ C i j ∧ Q (g i j) H
noncomputable def rI0 (g : Int → Int → V) : R2 := fun x y H Q => ∃ i j, x = .int i ∧ y = .int j ∧ Q (g i j) H
noncomputable def rU (g : Int → V) : V → Hp → VK → Prop := fun x H Q => ∃ i, x = .int i ∧ Q (g i) H
section
variable {X : Cx} {a b c : Expr} {ta tb tc : TE} {pos : Pos}
theorem binT (ha : PE X a ta) (hb : PE X b tb) {pins : List (Addr × Obj)} {s : Shared} {σ : St} {H : Hp} {R : V → V → Hp → Prop} (I : Inv X pins σ H s)
  (h : ta σ H fun x H1 => tb σ H1 fun y H2 => R x y H2) {Q : Value → Shared → Prop} {f : Value → Value → Sem Value}
  (hf : ∀ v u s2 x y H2, Inv X pins σ H2 s2 → RelV x v → RelV y u → R x y H2 → wpAny (model X.prog X.w) X.A (f v u) Q X.xe s2) :
  wpAny (model X.prog X.w) X.A (eval a X.env) (fun v s₁ => wpAny (model X.prog X.w) X.A (eval b X.env) (fun u s₂ => wpAny (model X.prog X.w) X.A (f v u) Q X.xe s₂) X.xe s₁) X.xe s := by
 refine thn (ha pins s σ H _ I h) fun v s1 ⟨x, H1, I1, r1, q1⟩ => ?_
 refine thn (hb pins s1 σ H1 _ I1 q1) fun u s2 ⟨y, H2, I2, r2, q2⟩ => ?_
 exact hf v u s2 x y H2 I2 r1 r2 q2
theorem b9o {op : Operator} {r : R2} (ho : OpR X (binaryOp op) r) (ha : PE X a ta) (hb : PE X b tb) : PE X (.BinOp a op b pos) (tOp r ta tb) := by
 intro pins s σ H Q I h
 exact wpAny_BinOp (binT ha hb I h fun v u s2 x y H2 I2 rx ry q => ho pins s2 σ H2 x y v u Q I2 rx ry q)
theorem b9m {op : UnaryOp} {r : V → Hp → VK → Prop} (ho : UnR X (unaryOp op) r) (ha : PE X a ta) : PE X (.UnaryOp op a pos) (tUn r ta) := by
 intro pins s σ H Q I h
 exact UnaryOp_ (thn (ha pins s σ H _ I h) fun v s1 ⟨x, H1, I1, r1, q1⟩ => ho pins s1 σ H1 x v Q I1 r1 q1)
theorem opI {f : Value → Value → Sem Value} {C : Int → Int → Prop} {g : Int → Int → Int}
  (rule : ∀ (i j : Int) (t u : Tok) (s : Shared) (Q : Value → Shared → Prop) (E : Value → Shared → Prop), C i j → Q (.int (g i j) s.toks) { s with toks := s.toks + 1 } → wpAny (model X.prog X.w) X.A (f (.int i t) (.int j u)) Q E s) :
  OpR X f (rI C fun i j => .int (g i j)) := by
 intro pins s σ H x y v u Q I rx ry h
 obtain ⟨i, j, rfl, rfl, hc, q⟩ := h
 obtain ⟨t, rfl⟩ := rx
 obtain ⟨t', rfl⟩ := ry
 exact rule i j t t' s _ _ hc ⟨.int (g i j), H, I.tok _, ⟨_, rfl⟩, q⟩
theorem opI0 {f : Value → Value → Sem Value} {g : Int → Int → Int}
  (rule : ∀ (i j : Int) (t u : Tok) (s : Shared) (Q : Value → Shared → Prop) (E : Value → Shared → Prop), Q (.int (g i j) s.toks) { s with toks := s.toks + 1 } → wpAny (model X.prog X.w) X.A (f (.int i t) (.int j u)) Q E s) :
  OpR X f (rI0 fun i j => .int (g i j)) := by
 intro pins s σ H x y v u Q I rx ry h
 obtain ⟨i, j, rfl, rfl, q⟩ := h
 obtain ⟨t, rfl⟩ := rx
 obtain ⟨t', rfl⟩ := ry
 exact rule i j t t' s _ _ ⟨.int (g i j), H, I.tok _, ⟨_, rfl⟩, q⟩
theorem opB0 {f : Value → Value → Sem Value} {g : Int → Int → Bool}
  (rule : ∀ (i j : Int) (t u : Tok) (s : Shared) (Q : Value → Shared → Prop) (E : Value → Shared → Prop), Q (.bool (g i j)) s → wpAny (model X.prog X.w) X.A (f (.int i t) (.int j u)) Q E s) :
  OpR X f (rI0 fun i j => .bl (g i j)) := by
 intro pins s σ H x y v u Q I rx ry h
 obtain ⟨i, j, rfl, rfl, q⟩ := h
 obtain ⟨t, rfl⟩ := rx
 obtain ⟨t', rfl⟩ := ry
 exact rule i j t t' s _ _ ⟨.bl (g i j), H, I, rfl, q⟩
noncomputable def CPow (i j : Int) : Prop := 0 ≤ j ∧ j ≤ 1000000 ∧ i.natAbs < 2 ^ 64
noncomputable def CMul (i j : Int) : Prop := (-(2 ^ 64) < i ∧ i < 2 ^ 64) ∨ (-(2 ^ 64) < j ∧ j < 2 ^ 64)
theorem CMul.ok {i j : Int} (h : CMul i j) : IntMulOk i j := by
 rcases h with ⟨h1, h2⟩ | ⟨h1, h2⟩
 ·exact .of_left (intBits_le_64 h1 h2)
 ·exact .of_right (intBits_le_64 h1 h2)
theorem b8n : OpR X (binaryOp .Add) (rI0 fun i j => .int (i + j)) := opI0 fun _ _ _ _ _ _ _ q => add_int q
theorem b8g : OpR X (binaryOp .Sub) (rI0 fun i j => .int (i - j)) := opI0 fun _ _ _ _ _ _ _ q => sub_int q
theorem b8j : OpR X (binaryOp .Mult) (rI CMul fun i j => .int (i * j)) := opI fun _ _ _ _ _ _ _ hc q => mul_int q hc.ok
theorem b8k : OpR X (binaryOp .Mod) (rI (fun _ j => 0 < j) fun i j => .int (i % j)) := opI fun i j _ _ _ _ _ hc q => by
 have h1 : (0 : Int) < j := hc
 exact mod_int' (by lia) (by rw [Int.fmod_eq_emod_of_nonneg i (by lia)]; exact q)
theorem b8i : OpR X (binaryOp .Pow) (rI CPow fun i j => .int (i ^ j.toNat)) := opI fun _ _ _ _ _ _ _ hc q => pow_int_small hc.1 hc.2.1 hc.2.2 q
theorem unI {f : Value → Sem Value} {g : Int → Int}
  (rule : ∀ (i : Int) (t : Tok) (s : Shared) (Q : Value → Shared → Prop) (E : Value → Shared → Prop), Q (.int (g i) s.toks) { s with toks := s.toks + 1 } → wpAny (model X.prog X.w) X.A (f (.int i t)) Q E s) :
  UnR X f (rU fun i => .int (g i)) := by
 intro pins s σ H x v Q I rx h
 obtain ⟨i, rfl, q⟩ := h
 obtain ⟨t, rfl⟩ := rx
 exact rule i t s _ _ ⟨.int (g i), H, I.tok _, ⟨_, rfl⟩, q⟩
theorem b7e : UnR X (unaryOp .USub) (rU fun i => .int (-i)) := unI fun _ _ _ _ _ q => neg_int q
end
section
variable {X : Cx} {a b c : Expr} {ta tb tc : TE} {pos : Pos}
theorem b5t {pins : List (Addr × Obj)} {σ : St} {H : Hp} {s : Shared} {Q : VK} {k k' : Bool} (I : Inv X pins σ H s) (q : Q (.bl k) H) (e : k = k') : EP X pins σ Q (.bool k') s := by
 subst e
 exact ⟨.bl k, H, I, rfl, q⟩
theorem b9t : OpR X (compareOp .Lt) (rI0 fun i j => .bl (decide (i < j))) := opB0 fun _ _ _ _ _ _ _ q => lt_int q
theorem b9u : OpR X (compareOp .LtE) (rI0 fun i j => .bl (decide (i ≤ j))) := opB0 fun _ _ _ _ _ _ _ q => le_int q
theorem b9v : OpR X (compareOp .Gt) (rI0 fun i j => .bl (decide (j < i))) := opB0 fun _ _ _ _ _ _ _ q => gt_int q
theorem b9w : OpR X (compareOp .GtE) (rI0 fun i j => .bl (decide (j ≤ i))) := opB0 fun _ _ _ _ _ _ _ q => ge_int q
theorem b8l : OpR X (compareOp .Is) (fun x y H Q => y = .non ∧ Q (.bl (decide (x = .non))) H) := by
 intro pins s σ H x y v u Q I rx ry h
 obtain ⟨rfl, q⟩ := h
 cases ry
 refine is_none_gen (b5t I q ?_)
 cases x <;> first
  | (cases rx; rfl)
  | (obtain ⟨t, rfl⟩ := rx; rfl)
theorem b6A : OpR X (compareOp .IsNot) (fun x y H Q => y = .non ∧ Q (.bl (!decide (x = .non))) H) := by
 intro pins s σ H x y v u Q I rx ry h
 obtain ⟨rfl, q⟩ := h
 cases ry
 refine isnot_none_gen (b5t I q ?_)
 cases x <;> first
  | (cases rx; rfl)
  | (obtain ⟨t, rfl⟩ := rx; rfl)
theorem a0n (b : Expr) {op : CmpOp} (h : op ≠ .In := by decide) (h2 : op ≠ .NotIn := by decide) : behindInMarks op b = false := by
 have e1 : (op == CmpOp.In) = false := by cases op <;> first | rfl | exact absurd rfl h
 have e2 : (op == CmpOp.NotIn) = false := by cases op <;> first | rfl | exact absurd rfl h2
 cases b <;> simp [behindInMarks, e1, e2]
theorem b6w {op : CmpOp} {r : R2} (ho : OpR X (compareOp op) r) (ha : PE X a ta) (hb : PE X b tb) (hm : behindInMarks op b = false) : PE X (.Compare a [op] [b] pos) (tOp r ta tb) := by
 intro pins s σ H Q I h
 exact wpAny_Compare1 (binT ha hb I h fun v u s2 x y H2 I2 rx ry q => ho pins s2 σ H2 x y v u Q I2 rx ry q) hm
noncomputable def b7m (t : TE) : TT := fun σ H Q => t σ H fun x H' => ∃ k, x = .bl k ∧ Q k H'
theorem b6i {op : CmpOp} {r : R2} (ho : OpR X (compareOp op) r) (ha : PE X a ta) (hb : PE X b tb) (hm : behindInMarks op b = false) : PT X (.Compare a [op] [b] pos) (b7m (tOp r ta tb)) := by
 intro pins s σ H Q I h
 refine wpAny_isTrue_Compare1 (thn (ha pins s σ H _ I h) fun v s1 ⟨x, H1, I1, r1, q1⟩ => thn (hb pins s1 σ H1 _ I1 q1) fun u s2 ⟨y, H2, I2, r2, q2⟩ =>
  thn (ho pins s2 σ H2 x y v u _ I2 r1 r2 q2) fun c s3 ⟨z, H3, I3, r3, k, e, q3⟩ => ?_) hm
 subst e
 cases r3
 exact wpAny_truthy_bool ⟨H3, I3, q3⟩
noncomputable def b2g (r r' : R2) (ta tb tc : TE) : TE := fun σ H Q => ta σ H fun x H1 => tb σ H1 fun y H2 => r x y H2 fun z H3 => ∃ k, z = .bl k ∧
 (if k = true then tc σ H3 fun w' H4 => r' y w' H4 Q else Q (.bl false) H3)
theorem b4r {op op' : CmpOp} {r r' : R2} (ho : OpR X (compareOp op) r) (ho' : OpR X (compareOp op') r') (ha : PE X a ta) (hb : PE X b tb) (hc : PE X c tc)
  (hm : lastMarks [op, op'] [b, c] = false := by with_unfolding_all rfl) : PE X (.Compare a [op, op'] [b, c] pos) (b2g r r' ta tb tc) := by
 intro pins s σ H Q I h
 refine Compare_chain (thn (ha pins s σ H _ I h) fun v s1 ⟨x, H1, I1, r1, q1⟩ => chain_link (thn (hb pins s1 σ H1 _ I1 q1) fun u s2 ⟨y, H2, I2, r2, q2⟩ =>
  thn (ho pins s2 σ H2 x y v u _ I2 r1 r2 q2) fun d s3 ⟨z, H3, I3, r3, k, e, q3⟩ => ?_)) hm
 subst e
 cases r3
 refine wpAny_truthy_bool ?_
 cases k with
 | false => exact ite_ff ⟨.bl false, H3, I3, rfl, q3⟩
 | true => exact ite_tt (chain_last (thn (hc pins s3 σ H3 _ I3 q3) fun w' s4 ⟨z', H4, I4, r4, q4⟩ => ho' pins s4 σ H4 y z' u w' Q I4 r2 r4 q4))
theorem b4m {op op' : CmpOp} {r r' : R2} (ho : OpR X (compareOp op) r) (ho' : OpR X (compareOp op') r') (ha : PE X a ta) (hb : PE X b tb) (hc : PE X c tc)
  (hm : lastMarks [op, op'] [b, c] = false := by with_unfolding_all rfl) : PT X (.Compare a [op, op'] [b, c] pos) (b7m (b2g r r' ta tb tc)) := by
 intro pins s σ H Q I h
 refine isTrue_chain (thn (ha pins s σ H _ I h) fun v s1 ⟨x, H1, I1, r1, q1⟩ => test_link (thn (hb pins s1 σ H1 _ I1 q1) fun u s2 ⟨y, H2, I2, r2, q2⟩ =>
  thn (ho pins s2 σ H2 x y v u _ I2 r1 r2 q2) fun d s3 ⟨z, H3, I3, r3, k, e, q3⟩ => ?_)) hm
 subst e
 cases r3
 refine wpAny_truthy_bool ?_
 cases k with
 | false =>
   obtain ⟨k', e', q'⟩ := q3
   cases e'
   exact ite_ff ⟨H3, I3, q'⟩
 | true =>
   refine ite_tt (test_last (thn (hc pins s3 σ H3 _ I3 q3) fun w' s4 ⟨z', H4, I4, r4, q4⟩ => thn (ho' pins s4 σ H4 y z' u w' _ I4 r2 r4 q4) fun d' s5 ⟨z2, H5, I5, r5, k2, e2, q5⟩ => ?_))
   subst e2
   cases r5
   exact wpAny_truthy_bool ⟨H5, I5, q5⟩
noncomputable def TruV (K : PySem.W.Frag) (x : V) (H : Hp) (k : Bool) : Prop :=
 match x with
 | .non => k = false
 | .bl b => k = b
 | .int i => k = (i != 0)
 | .str y => y.length ≤ sizeLine ∧ k = ((y.length : Int) != 0)
 | .byt y => y.size ≤ sizeLine ∧ k = ((y.size : Int) != 0)
 | .ref p => (∃ xs, SqL K H p xs ∧ k = !xs.isEmpty) ∨ (∃ xs, SqT K H p xs ∧ k = !xs.isEmpty) ∨ ∃ kvs, H p = some (.dK kvs) ∧ k = !kvs.isEmpty
 | _ => False
theorem b1K {κ : Type} {kvs : List (κ × V)} {vs : List (κ × Value)} (r : KV kvs vs) : (!vs.isEmpty) = !kvs.isEmpty := by
 cases r <;> rfl
theorem a7j {xs : List V} {its : List Value} (r : Vals xs its) : (!its.toArray.isEmpty) = !xs.isEmpty := by
 cases r <;> simp
theorem a5D : (sizeLine : Nat) < 2 ^ 63 := by rw [sizeLine_eq]; decide
theorem b7h : TruR X (fun x H Q => ∃ k, TruV X.K x H k ∧ Q k H) := by
 intro pins s σ H x v Q I rx h
 obtain ⟨k, e, q⟩ := h
 have hl := a5D
 have hs : sizeLine = 16777216 := sizeLine_eq
 cases x with
 | non =>
   cases rx
   have e' : k = false := e
   subst e'
   exact truthy_none ⟨H, I, q⟩
 | bl b =>
   cases rx
   have e' : k = b := e
   subst e'
   exact wpAny_truthy_bool ⟨H, I, q⟩
 | int i =>
   obtain ⟨t, rfl⟩ := rx
   have e' : k = (i != 0) := e
   subst e'
   exact PySem.P.truthy_int ⟨H, I, q⟩
 | str y =>
   obtain ⟨t, rfl⟩ := rx
   obtain ⟨hy, e'⟩ : y.length ≤ sizeLine ∧ k = ((y.length : Int) != 0) := e
   subst e'
   exact PySem.P.truthy_str (by lia) ⟨H, I.tok _, q⟩
 | byt y =>
   obtain ⟨t, rfl⟩ := rx
   obtain ⟨hy, e'⟩ : y.size ≤ sizeLine ∧ k = ((y.size : Int) != 0) := e
   subst e'
   exact PySem.W.truthy_bytes (by lia) ⟨H, I.tok _, q⟩
 | ref p =>
   cases rx
   have e' : (∃ xs, SqL X.K H p xs ∧ k = !xs.isEmpty) ∨ (∃ xs, SqT X.K H p xs ∧ k = !xs.isEmpty) ∨ ∃ kvs, H p = some (.dK kvs) ∧ k = !kvs.isEmpty := e
   rcases e' with ⟨xs, hx, e'⟩ | ⟨xs, hx, e'⟩ | ⟨kvs, hx, e'⟩
   ·subst e'
    obtain ⟨its, r, pl, hz⟩ := I.list hx
    have hlen := r.length
    exact wpAny_truthy_list pl.isList (by simp only [List.size_toArray]; lia) ⟨H, I.tok _, by rw [a7j r]; exact q⟩
   ·subst e'
    obtain ⟨its, r, pl, hz⟩ := I.tuple hx
    have hlen := r.length
    exact truthy_tuple pl (by simp only [List.size_toArray]; lia) ⟨H, I.tok _, by rw [a7j r]; exact q⟩
   ·subst e'
    obtain ⟨hz, hS, vs, r, m⟩ : kvs.length ≤ sizeLine ∧ (p == sysModules) = false ∧ ∃ vs, KV kvs vs ∧ s.heap.DictOf (a2i X.prog X.w) p vs := I.hok p _ hx
    have hlen : kvs.length = vs.length := Paired.length r
    exact wpAny_truthy_dict hS m (by lia) ⟨H, I.tok _, by rw [b1K r]; exact q⟩
 | _ => exact (show False from e).elim
theorem b4l (ha : PE X a ta) (he : ∀ whole, isTrue a X.env whole = (do let v ← whole; standAt a.pos; holding [v] (truthy v))) :
  PT X a (fun σ H Q => ta σ H fun x H' => ∃ k, TruV X.K x H' k ∧ Q k H') := by
 intro pins s σ H Q I h
 exact isTrue_plain (thn (ha pins s σ H _ I h) fun v s1 ⟨x, H1, I1, r1, q1⟩ => b7h pins s1 σ H1 x v Q I1 r1 q1) (he _)
theorem b1w : OpR X (binaryOp .Add) (fun x y H Q => ∃ i j, x = .str i ∧ y = .str j ∧ i.length + j.length ≤ sizeLine ∧ Q (.str (i ++ j)) H) := by
 intro pins s σ H x y v u Q I rx ry h
 obtain ⟨i, j, rfl, rfl, hz, q⟩ := h
 obtain ⟨t, rfl⟩ := rx
 obtain ⟨t', rfl⟩ := ry
 exact add_str (fun t' tk => ⟨.str (i ++ j), H, I.tok _, ⟨_, rfl⟩, q⟩) hz
theorem a5k {x : V} {us : List Value} (r : Vals [x] us) : ∃ u, us = [u] ∧ RelV x u := by
 cases r with
 | cons r1 r2 => cases r2; exact ⟨_, rfl, r1⟩
theorem b4Y : a6R X (.builtin "abs") (fun xs H Q => ∃ i, xs = [.int i] ∧ Q (.int (if i < 0 then -i else i)) H) := by
 intro pins s σ H xs us Q I r h
 obtain ⟨i, rfl, q⟩ := h
 obtain ⟨u, rfl, t, rfl⟩ := a5k r
 exact call_abs_int fun u tk => ⟨.int (if i < 0 then -i else i), H, I.tok _, ⟨_, rfl⟩, q⟩
theorem a9r : a6R X (.type "int") (fun xs H Q => (∃ i, xs = [.int i] ∧ Q (.int i) H) ∨ ∃ k, xs = [.bl k] ∧ Q (.int (if k then 1 else 0)) H) := by
 intro pins s σ H xs us Q I r h
 rcases h with ⟨i, rfl, q⟩ | ⟨k, rfl, q⟩
 ·obtain ⟨u, rfl, t, rfl⟩ := a5k r
  exact call_int_int ⟨.int i, H, I, ⟨_, rfl⟩, q⟩
 ·obtain ⟨u, rfl, r1⟩ := a5k r
  cases r1
  exact call_int_bool ⟨.int (if k then 1 else 0), H, I.tok _, ⟨_, rfl⟩, q⟩
end
section
variable {prog : Program} {w : World} {A : Around} {E : Value → Shared → Prop} {s : Shared} {K : PySem.W.Frag} {x dx C f : Addr} {mA : Str → Option Value} {name : Str} {v : Value}
end
theorem RelO.some_of {v : V} {o : Option Value} (r : RelO (some v) o) : ∃ u, o = some u ∧ RelV v u := by
 cases o with
 | none => exact (show False from r).elim
 | some u => exact ⟨u, rfl, r⟩
section
variable {P : Program} {w : World} {H H' : Hp} {h h' : Heap} {a C dx : Addr} {fs fs' : List (Str × V)}
end
structure Cls (K : PySem.W.Frag) (C : Addr) : Prop where
 pg : PySem.W.plainGet K C Str.empty = true
 hd : PySem.W.hasDictIn K C = true
 po : PySem.W.plainOver K C = true
 sa : PySem.W.findIn K (.ref C) "__setattr__" = some (some (.builtin "object.__setattr__"))
theorem Cls.get {K : PySem.W.Frag} {C : Addr} (c : Cls K C) (f : Str) : PySem.W.plainGet K C f = true := c.pg
section
variable {X : Cx} {pins : List (Addr × Obj)} {σ : St} {H : Hp} {s : Shared} {a C dx : Addr} {fs : List (Str × V)} {f : Str} {v : V} {A : Around} {E : Value → Shared → Prop}
end
section
variable {X : Cx} {o e value : Expr} {f : Str} {pos pos' tpos : Pos} {ta tv : TE}
end
section
variable {X : Cx} {pins : List (Addr × Obj)} {σ : St} {H : Hp} {s : Shared} {A : Around} {E : Value → Shared → Prop} {Q : Value → Shared → Prop} {c : Value} {b : Bool}
end
structure Room (k : Nat) (A : Around) : Prop where
 hd : A.handled = none
 dp : A.depth + 3 * k + 5 < recursionLimit
 un : A.units + 16 * k + 200 < cLine
theorem Room.mono {j k : Nat} {A : Around} (r : Room k A) (h : j ≤ k) : Room j A := ⟨r.hd, by have := r.dp; lia, by have := r.un; lia⟩
theorem Room.deeper {k : Nat} {A : Around} (r : Room (k + 1) A) (env : Env) : Room k (A.deeper env) :=
 ⟨r.hd, by have := r.dp; show A.depth + 1 + 3 * k + 5 < _; lia, by have := r.un; show A.units + 3 + 16 * k + 200 < _; lia⟩
theorem Room.depth {k : Nat} {A : Around} (r : Room k A) : A.depth < recursionLimit := by have := r.dp; lia
theorem Room.units {k : Nat} {A : Around} (r : Room k A) : A.units + 64 < cLine := by have := r.un; lia
noncomputable def tNil : TA := fun _ H Q => Q [] H
noncomputable def b8W (ta : TE) (tr : TA) : TA := fun σ H Q => ta σ H fun x H1 => tr σ H1 fun xs H2 => Q (x :: xs) H2
section
variable {X : Cx} {e : Expr} {es : List Expr} {te : TE} {t : TA} {pos : Pos}
theorem b5n : PA X [] tNil := fun _ _ _ _ H Q I h => Calls.spliced_nil ⟨[], H, I, .nil, h⟩
theorem b2D (ha : PE X e te) (hr : PA X es t) (hs : starEach (e :: es) X.env = (false, eval e X.env) :: starEach es X.env := by rfl) : PA X (e :: es) (b8W te t) := by
 intro pos pins s σ H Q I h
 rw [hs]
 show wpAny _ _ (spliced ((false, eval e X.env) :: backTo pos (starEach es X.env))) _ _ s
 refine Calls.spliced_cons (thn (ha pins s σ H _ I h) fun u s1 ⟨x, H1, I1, r1, q1⟩ => ?_)
 exact thn (hr pos pins s1 σ H1 _ I1 q1) fun us s2 ⟨xs, H2, I2, r2, q2⟩ => ⟨x :: xs, H2, I2, .cons r1 r2, q2⟩
noncomputable def tTup (t : TA) : TE := fun σ H Q => t σ H fun xs H1 => xs.length ≤ sizeLine ∧ ∀ p, H1 p = none → Q (.ref p) (upd H1 p (.tup xs))
noncomputable def tLst (t : TA) : TE := fun σ H Q => t σ H fun xs H1 => xs.length ≤ sizeLine ∧ ∀ p, H1 p = none → Q (.ref p) (upd H1 p (.lst xs))
theorem b2B {x1} (h : PA X es t) : PE X (.Tuple es x1 pos) (tTup t) := by
 intro pins s σ H Q I hq
 refine wpAny_Tuple_spliced (thn (h pos pins s σ H _ I hq) fun us s1 ⟨xs, H1, I1, r, z, q⟩ => ⟨by rw [← r.length]; exact z, ?_⟩)
 have hf : H1 s1.heap.objs.size = none := I1.hok.fresh (Nat.le_refl _)
 refine ⟨.ref s1.heap.objs.size, upd H1 s1.heap.objs.size (.tup xs), I1.laid (t' := s1.toks) (fun b u e => Heap.get?_push_of_some _ e) (Nat.le_refl _) ?_, rfl, q _ hf⟩
 exact ⟨z, us, r, ⟨_, Heap.get?_push_size _ rfl, rfl, rfl, _, rfl⟩⟩
theorem b8d (h : PA X es t) : PE X (.List es pos) (tLst t) := by
 intro pins s σ H Q I hq
 refine wpAny_List_spliced (thn (h pos pins s σ H _ I hq) fun us s1 ⟨xs, H1, I1, r, z, q⟩ => ⟨by rw [← r.length]; exact z, ?_⟩)
 have hf : H1 s1.heap.objs.size = none := I1.hok.fresh (Nat.le_refl _)
 refine ⟨.ref s1.heap.objs.size, upd H1 s1.heap.objs.size (.lst xs), I1.laid (t' := s1.toks) (fun b u e => Heap.get?_push_of_some _ e) (Nat.le_refl _) ?_, rfl, q _ hf⟩
 exact ⟨z, us, 0, r, Heap.get?_push_size _ rfl⟩
end
noncomputable abbrev Sp := List V → Hp → VK → XK → Prop
noncomputable abbrev CXT := List Env → Hp → Shared → XK → Value → Shared → Prop
structure Env0 (P : Program) (w : World) (K : PySem.W.Frag) (mg : Str → Option Value) (base : Heap) (A : Around) (outer : List Env) (s : Shared) (H : Hp) : Prop where
 frames : A.frames = some outer
 mod : Mod K mg base
 bs : ∀ b o, base.get? b = some o → s.heap.get? b = some o ∧ H b = none
 bsz : base.objs.size ≤ s.heap.objs.size
 funs : s.heap.FunFrames base outer
 frf : ∀ b ∈ frs outer, H b = none
 hok : HOk P w H s.heap
 bare : AllBare s.gens
noncomputable def CE (outer : List Env) (P : Program) (w : World) (H : Hp) (s : Shared) (Q : VK) (u : Value) (s' : Shared) : Prop :=
 ∃ v H', s'.os = s.os ∧ AllBare s'.gens ∧ Un (frs outer) [] H H' s.heap s'.heap ∧ HOk P w H' s'.heap ∧ RelV v u ∧ Q v H'
noncomputable def CR (CX : CXT) (outer : List Env) (P : Program) (w : World) (H : Hp) (s : Shared) (Q : VK) (E : XK) (r : Result) (s' : Shared) : Prop :=
 match r with
 | .ok (.ret u) => CE outer P w H s Q u s'
 | .ok _ => False
 | .error e => CX outer H s E e s'
structure FnOk (P : Program) (w : World) (K : PySem.W.Frag) (mg : Str → Option Value) (base : Heap) (CX : CXT) (k : Nat) (f : Addr) (fd : FuncData) (ps : List Str) (sp : Sp) : Prop where
 len : ∀ vs H Q E, sp vs H Q E → vs.length = ps.length
 run : ∀ (A : Around) (outer : List Env) (s : Shared) (H : Hp) (args : Args) (us : List Value) (vs : List V) (Q : VK) (E : XK), Room k A → Env0 P w K mg base A outer s H → BindsTo s fd args (ps.zip us) → Vals vs us → sp vs H Q E →
  codeAny (model P w) A (.call (.ref f) args) (CR CX outer P w H s Q E) s
theorem FnOk.mono {P : Program} {w : World} {K : PySem.W.Frag} {mg : Str → Option Value} {base : Heap} {CX : CXT} {j k : Nat} {f : Addr} {fd : FuncData} {ps : List Str} {sp : Sp} (F : FnOk P w K mg base CX j f fd ps sp) (h : j ≤ k) :
  FnOk P w K mg base CX k f fd ps sp := ⟨F.len, fun A outer s H args us vs Q E hr => F.run A outer s H args us vs Q E (hr.mono h)⟩
section
variable {X : Cx} {pins : List (Addr × Obj)} {σ : St} {H : Hp} {s s' : Shared}
theorem Inv.env0 (I : Inv X pins σ H s) : Env0 X.prog X.w X.K X.mg X.base X.A X.stack s H :=
 ⟨I.ok.frames, I.ok.mod, I.bs, Nat.le_trans I.ok.bsz I.sz, I.stack, I.stkFree, I.hok, I.bare⟩
theorem Inv.after {Q : VK} {u : Value} (I : Inv X pins σ H s) (h : CE X.stack X.prog X.w H s Q u s') : EP X pins σ Q u s' := by
 obtain ⟨v, H', os, bare, un, hok, r, q⟩ := h
 obtain ⟨hh, g, d, t, os'⟩ := s'
 obtain rfl : os' = s.os := os
 exact ⟨v, H', I.call (h' := hh) (g' := g) (d' := d) (t' := t) (ch := []) un hok bare (fun b z => absurd z (by simp)), r, q⟩
end
noncomputable def b8X (sp : Sp) (dvs : List V) (E : XK) (t : TA) : TE := fun σ H Q => t σ H fun vs H1 => sp (vs ++ dvs) H1 Q E
noncomputable def a1f (K : PySem.W.Frag) (fd : FuncData) (ps : List Str) (ds : List Value) : Prop :=
 ∀ (s : Shared) (us : List Value), K.In s.heap → (us ++ ds).length = ps.length → BindsTo s fd ⟨us, []⟩ (ps.zip (us ++ ds))
theorem a1f.all {K : PySem.W.Frag} {fd : FuncData} {ps : List Str} (h : ∀ us : List Value, us.length = ps.length → bindArgs fd ⟨us, []⟩ = pure (ps.zip us)) : a1f K fd ps [] := fun s us _ hl => by
 rw [List.append_nil] at hl ⊢
 exact .of_eq (h us hl)
noncomputable def b3U (CX : CXT) (X : Cx) (E : XK) : Prop := ∀ (pins : List (Addr × Obj)) (σ : St) (H : Hp) (s : Shared) (e : Value) (s' : Shared), Inv X pins σ H s → CX X.stack H s E e s' → X.xe e s'
section
variable {X : Cx} {CX : CXT} {k : Nat} {f C : Addr} {fd : FuncData} {ps : List Str} {sp : Sp} {dvs : List V} {ds : List Value} {E : XK} {x m : Str} {p pos apos : Pos} {e o : Expr} {es : List Expr} {ta : TE} {t : TA}
theorem b7G {pins : List (Addr × Obj)} {σ : St} {H : Hp} {s : Shared} {Q : VK} {us : List Value} {vs : List V} (F : FnOk X.prog X.w X.K X.mg X.base CX k f fd ps sp) (hr : Room k X.A) (hb : a1f X.K fd ps ds) (hd : Vals dvs ds) (hx : b3U CX X E)
  (I : Inv X pins σ H s) (r : Vals vs us) (h : sp (vs ++ dvs) H Q E) : wpAny (model X.prog X.w) X.A (call (.ref f) us) (EP X pins σ Q) X.xe s := by
 have r2 : Vals (vs ++ dvs) (us ++ ds) := r.append hd
 have hl : (us ++ ds).length = ps.length := by rw [← r2.length]; exact F.len _ _ _ _ h
 refine wpAny_call (codeAny_mono (F.run X.A X.stack s H ⟨us, []⟩ (us ++ ds) (vs ++ dvs) Q E hr I.env0 (hb s us I.kIn hl) r2 h) fun r s' hq => ?_)
 cases r with
 | error e => exact hx pins σ H s e s' I hq
 | ok fl =>
   cases fl with
   | ret u => exact I.after hq
   | next => exact False.elim hq
   | brk => exact False.elim hq
   | cont => exact False.elim hq
theorem b6x (F : FnOk X.prog X.w X.K X.mg X.base CX k f fd ps sp) (hr : Room k X.A) (hg : Gl X x) (hm : X.mg x = some (.ref f)) (hk : PySem.W.keepIn X.K (.ref f) = true) (hb : a1f X.K fd ps ds) (hd : Vals dvs ds) (hx : b3U CX X E)
  (ha : PA X (e :: es) t) (hdb : (x == ("__debug__" : Str)) = false := by decide) (he : starEach (e :: es) X.env = (false, eval e X.env) :: starEach es X.env := by rfl) (hpl : (backTo pos (starEach es X.env)).any (·.1) = false := by rfl) :
  PE X (.Call (.Name x p) (e :: es) [] pos) (b8X sp dvs E t) := by
 intro pins s σ H Q I h
 refine wpAny_Call_Name_kw (b2X I hg hm ?_ hdb)
 refine PySem.W.callWith_K (h₀ := X.base) I.ok.mod.kin hk (thn (ha pos pins s σ H _ I h) fun us s1 ⟨vs, H1, I1, r, q⟩ => ⟨I1.kIn, ?_⟩) he hpl
 exact b7G F hr hb hd hx I1 r q
end
section
variable {X : Cx} {CX : CXT} {k : Nat} {f C : Addr} {fd : FuncData} {ps ks : List Str} {sp : Sp} {E : XK} {x m : Str} {p pos apos kpos : Pos} {e o : Expr} {es : List Expr} {kws : List Keyword} {te ta : TE} {t tk : TA} {nm : Option Str}
variable {g : List Value → List Value → List Value} {gV : List V → List V → List V}
end
structure FnScope (N P : List Str) (sc : Scope) : Prop where
 kind : sc.kind = .function
 co : sc.isCoroutine = false
 gen : sc.isGenerator = false
 nd : N.Nodup
 pre : N.take P.length = P
 par : ∀ x ∈ P, sc.names.lookup x = some .local ∨ sc.names.lookup x = some .cell
 nofree : ∀ y ∈ sc.names, y.2 ≠ .free
theorem a9t {kindOf : Str → Option NameKind} {x : Str} : ∀ {binds : List (Str × Value)} {m : Str → Option Value}, (∀ v, (x, v) ∉ binds) → bindL kindOf binds m x = m x
 | [], _, _ => rfl
 | (n, v) :: r, m, h => by
   unfold bindL
   rw [a9t fun w hw => h w (List.mem_cons_of_mem _ hw)]
   split
   ·have : x ≠ n := by rintro rfl; exact h v List.mem_cons_self
    simp [this]
   ·rfl
theorem a9v {kindOf : Str → Option NameKind} {x : Str} : ∀ {binds : List (Str × Value)} {m : Str → Option Value}, (∀ v, (x, v) ∉ binds) → bindC kindOf binds m x = m x
 | [], _, _ => rfl
 | (n, v) :: r, m, h => by
   unfold bindC
   rw [a9v fun w hw => h w (List.mem_cons_of_mem _ hw)]
   split
   ·rfl
   ·have : x ≠ n := by rintro rfl; exact h v List.mem_cons_self
    simp [this]
theorem a9u {kindOf : Str → Option NameKind} {x : Str} {v : Value} : ∀ {P : List Str} {vs : List Value} {i : Nat} {m : Str → Option Value}, P.Nodup → P[i]? = some x → vs[i]? = some v → kindOf x = some .local →
  bindL kindOf (P.zip vs) m x = some v
 | [], _, _, _, _, h, _, _ => by simp at h
 | _ :: _, [], _, _, _, _, h, _ => by simp at h
 | p :: P, w :: vs, 0, m, nd, h1, h2, hk => by
   simp at h1 h2; subst h1; subst h2
   show bindL kindOf ((p, w) :: P.zip vs) m p = _
   unfold bindL
   rw [a9t fun v hv => (List.nodup_cons.mp nd).1 (List.of_mem_zip hv).1, if_pos hk]
   simp
 | p :: P, w :: vs, i + 1, m, nd, h1, h2, hk => by
   show bindL kindOf ((p, w) :: P.zip vs) m x = _
   unfold bindL
   exact a9u (i := i) (List.nodup_cons.mp nd).2 (by simpa using h1) (by simpa using h2) hk
theorem a9w {kindOf : Str → Option NameKind} {x : Str} {v : Value} : ∀ {P : List Str} {vs : List Value} {i : Nat} {m : Str → Option Value}, P.Nodup → P[i]? = some x → vs[i]? = some v → kindOf x ≠ some .local →
  bindC kindOf (P.zip vs) m x = some v
 | [], _, _, _, _, h, _, _ => by simp at h
 | _ :: _, [], _, _, _, _, h, _ => by simp at h
 | p :: P, w :: vs, 0, m, nd, h1, h2, hk => by
   simp at h1 h2; subst h1; subst h2
   show bindC kindOf ((p, w) :: P.zip vs) m p = _
   unfold bindC
   rw [a9v fun v hv => (List.nodup_cons.mp nd).1 (List.of_mem_zip hv).1, if_neg hk]
   simp
 | p :: P, w :: vs, i + 1, m, nd, h1, h2, hk => by
   show bindC kindOf ((p, w) :: P.zip vs) m x = _
   unfold bindC
   exact a9w (i := i) (List.nodup_cons.mp nd).2 (by simpa using h1) (by simpa using h2) hk
noncomputable def start (N : List Str) (vs : List V) : St := vs.map some ++ List.replicate (N.length - vs.length) none
noncomputable def cxOf (CX : CXT) (P : Program) (w : World) (K : PySem.W.Frag) (mg : Str → Option Value) (base : Heap) (N : List Str) (qual : Str) (scope : Scope) (f : Addr) (cd : Value) (A : Around) (outer : List Env) (s : Shared) (H : Hp) (E : XK) : Cx where
 prog := P
 w := w
 K := K
 mg := mg
 base := base
 A := A.deeper (envOfC qual scope s.heap.objs.size f cd)
 N := N
 s₀ := s
 H₀ := H
 env := envOfC qual scope s.heap.objs.size f cd
 outer := outer
 stack := envOfC qual scope s.heap.objs.size f cd :: outer
 ex := []
 calm := true
 fn := fun _ => true
 pn := []
 xe := fun e s' => wpAny (model P w) (A.deeper (envOfC qual scope s.heap.objs.size f cd)) (leaving (envOfC qual scope s.heap.objs.size f cd) e) (fun _ s'' => CX outer H s E e s'') (fun e' s'' => CX outer H s E e' s'') s'
theorem b1e {sc : Scope} {n : Nat} {x : Str} (h : sc.names.lookup x = some .cell) : ∃ c, (cellsFrom n sc.names []).lookup x = some c := by
 have q := PySem.W.cellsFrom_some sc.names n [] (.inl h)
 exact Option.isSome_iff_exists.mp q
theorem b3g {CX : CXT} {P : Program} {w : World} {K : PySem.W.Frag} {mg : Str → Option Value} {base : Heap} {N ps : List Str} {qual : Str} {scope : Scope} {f : Addr} {cd : Value} {A : Around} {outer : List Env} {s s1 : Shared} {H : Hp} {E : XK} {us : List Value} {vs : List V}
  (S : FnScope N ps scope) (hd : A.handled = none) (e0 : Env0 P w K mg base A outer s H) (hl : vs.length = ps.length) (r : Vals vs us)
  (x : InCallC s s.heap.objs.size (bindL (envOfC qual scope s.heap.objs.size f cd).kindOf (ps.zip us) fun _ => none) (cellsFrom (s.heap.objs.size + 1) scope.names []) (bindC (envOfC qual scope s.heap.objs.size f cd).kindOf (ps.zip us) fun _ => none) s1) :
  Inv (cxOf CX P w K mg base N qual scope f cd A outer s H E) [] (start N vs) H s1 := by
 have hpl : ps.length ≤ N.length := by have := congrArg List.length S.pre; rw [List.length_take] at this; lia
 obtain ⟨h1, tk, rfl, hk⟩ := x.done
 have noA : ∀ b : Addr, b ∉ (cxOf CX P w K mg base N qual scope f cd A outer s H E).ex := fun b z => absurd (show b ∈ ([] : List Addr) from z) (by simp)
 refine ⟨⟨e0.mod, S.kind, rfl, rfl, Nat.le_refl _, fun y z c h1 h2 => ?_, fun y hy => ?_, fun y c _ h => ?_, fun _ => hd, Around.frames_deeper e0.frames, .inr ⟨rfl, rfl⟩, fun b z => absurd z (noA b), e0.bs, e0.bsz, fun b _ _ => noA b, fun b z => absurd z (noA b), e0.funs, e0.frf⟩,
  rfl, e0.bare, Un.kept hk, ⟨_, x.toInCall.ns, fun i y v h1 h2 h3 => ?_⟩, fun y c h => ⟨_, x.cell y c h⟩, e0.hok.fresh (Nat.le_refl _), fun y c h => ?_, fun p hp => absurd (show p ∈ ([] : List (Addr × Obj)) from hp) (by simp), e0.hok.kept hk, ?_⟩
 ·exact name_of_addr x.apart (PySem.mem_of_lookup h1) (PySem.mem_of_lookup h2)
 ·have hy : scope.names.lookup y = some .cell ∨ scope.names.lookup y = some .free := hy
  rcases hy with hy | hy
  ·exact b1e hy
  ·exact absurd rfl (S.nofree _ (PySem.mem_of_lookup hy))
 ·exact Nat.le_of_lt (x.above y c (PySem.mem_of_lookup h))
 ·have hi : i < vs.length := by
   unfold start at h2
   by_cases hi : i < vs.length
   ·exact hi
   ·rw [List.getElem?_append_right (by simpa using hi)] at h2
    rw [List.getElem?_replicate] at h2
    split at h2 <;> cases h2
  have ha : vs[i]? = some v := by
   unfold start at h2
   rw [List.getElem?_append_left (by simpa using hi), List.getElem?_map] at h2
   cases e : vs[i]? with
   | none => rw [e] at h2; cases h2
   | some a => rw [e] at h2; cases h2; rfl
  obtain ⟨u, hu, rv⟩ := r.get ha
  have hp : ps[i]? = some y := by
   rw [← S.pre, List.getElem?_take_of_lt (by lia)]; exact h1
  have ndP : ps.Nodup := by rw [← S.pre]; exact S.nd.sublist (List.take_sublist _ _)
  refine ⟨u, rv, ?_⟩
  rcases S.par y (List.mem_of_getElem? hp) with k | k
  ·exact .inl ⟨k, a9u ndP hp hu k⟩
  ·obtain ⟨c, e⟩ := b1e (n := s.heap.objs.size + 1) k
   refine .inr ⟨.inl k, c, e, ?_⟩
   have q := x.cell y c e
   rw [a9w ndP hp hu (by show scope.names.lookup y ≠ _; rw [k]; decide)] at q
   exact q
 ·exact e0.hok.fresh (Nat.le_of_lt (x.above y c (PySem.mem_of_lookup h)))
 ·unfold start
  show _ = N.length
  rw [List.length_append, List.length_map, List.length_replicate]
  lia
theorem b9H {CX : CXT} {P : Program} {w : World} {K : PySem.W.Frag} {mg : Str → Option Value} {base : Heap} {k : Nat} {f : Addr} {name qual : Str} {params : Arguments} {body : List Stmt} {scope : Scope} {dV kV doc pm cdv ct oc : Value} {an od : Option Addr}
  {osl : Array (Option Value)} {N ps : List Str} {sp : Sp} (lk : K.lookup f = some ⟨oc, od, .func (PySem.W.fnOf name qual params body scope dV kV doc pm an cdv ct), osl⟩) (hcd : PySem.W.codeIn K cdv qual = true) (S : FnScope N ps scope)
  (len : ∀ vs H Q E, sp vs H Q E → vs.length = ps.length)
  (hbody : ∀ (A : Around) (outer : List Env) (s : Shared) (H : Hp) (vs : List V) (Q : VK) (E : XK), Room k (A.deeper (envOfC qual scope s.heap.objs.size f cdv)) → sp vs H Q E →
   ∃ t, PSs (cxOf CX P w K mg base N qual scope f cdv A outer s H E) body t ∧ t { nx := fun _ H' => Q .non H', rt := Q } (start N vs) H) :
  FnOk P w K mg base CX (k + 1) f (PySem.W.fnOf name qual params body scope dV kV doc pm an cdv ct) ps sp := by
 refine ⟨len, fun A outer s H args us vs Q E hr e0 hb r hsp => ?_⟩
 have hl := len _ _ _ _ hsp
 have KX : K.In s.heap := e0.mod.kin.keeps fun b o e => (e0.bs b o e).1
 have lim : s.heap.NoLimit := e0.mod.nolimit.keeps fun b o e => (e0.bs b o e).1
 have hkind : ∀ y ∈ ps.zip us, scope.names.lookup y.1 = some .local ∨ (scope.names.lookup y.1 = some .cell ∧ ((cellsFrom (s.heap.objs.size + 1) scope.names []).lookup y.1).isSome = true) := fun ⟨n, v⟩ hy => by
  rcases S.par n (List.of_mem_zip hy).1 with q | q
  ·exact .inl q
  ·exact .inr ⟨q, PySem.W.cellsFrom_some _ _ _ (.inl q)⟩
 refine codeAny_call_function hr.depth (KX _ _ lk) rfl S.co S.gen rfl (PySem.W.codeRec_of KX hcd) (hb _ _ _ _ ?_)
 refine wpAny_newFunctionEnv_cells S.kind hkind fun env he s1 x => ?_
 subst he
 refine ⟨lim.keeps x.toInCall.keep, codeAny_func ?_⟩
 obtain ⟨t, ht, hq⟩ := hbody A outer s H vs Q E (hr.deeper _) hsp
 have I : Inv (cxOf CX P w K mg base N qual scope f cdv A outer s H E) [] (start N vs) H s1 := b3g S hr.hd e0 hl r x
 refine wpAny_mono (ht [] s1 (start N vs) H _ I hq) (fun fl s' hs => ?_) fun e s' hs => hs
 have fin : ∀ {σ' : St} {H' : Hp} {v : V} {u : Value}, Inv (cxOf CX P w K mg base N qual scope f cdv A outer s H E) [] σ' H' s' → RelV v u → Q v H' → CE outer P w H s Q u s' :=
  fun {σ' H' v u} J rv q => ⟨v, H', J.os, J.bare, J.base, J.hok, rv, q⟩
 cases fl with
 | ret u =>
   obtain ⟨v, σ', H', J, rv, q⟩ := hs
   exact fin J rv q
 | next =>
   obtain ⟨σ', H', J, q⟩ := hs
   exact fin (v := V.non) (u := Value.none) J rfl q
 | brk =>
   obtain ⟨_, _, _, q⟩ := hs
   exact False.elim q
 | cont =>
   obtain ⟨_, _, _, q⟩ := hs
   exact False.elim q
section
variable {X : Cx} {x : Str} {p pos : Pos} {e : Expr} {es : List Expr} {t : TA} {id T : String} {r : List V → Hp → VK → Prop}
noncomputable def tCB (r : List V → Hp → VK → Prop) (t : TA) : TE := fun σ H Q => t σ H fun vs H1 => r vs H1 Q
theorem b4s (hc : a6R X (.builtin id) r) (hg : Gl X x) (hm : X.mg x = none) (hv : bootBuiltins x = some (.builtin id)) (ha : PA X (e :: es) t) (hn : x ≠ "__name__" := by decide) (hdb : (x == ("__debug__" : Str)) = false := by decide)
  (he : starEach (e :: es) X.env = (false, eval e X.env) :: starEach es X.env := by rfl) (hpl : (backTo pos (starEach es X.env)).any (·.1) = false := by rfl) : PE X (.Call (.Name x p) (e :: es) [] pos) (tCB r t) := by
 intro pins s σ H Q I h
 refine wpAny_Call_Name_kw (a5F I hg hm hv ?_ hn hdb)
 exact PyProof.Rows.callWith_builtin1 (thn (ha pos pins s σ H _ I h) fun us s1 ⟨vs, H1, I1, r1, q1⟩ => hc pins s1 σ H1 vs us Q I1 r1 q1) he hpl
theorem b2C (hc : a6R X (.type T) r) (hg : Gl X x) (hm : X.mg x = none) (hv : bootBuiltins x = some (.type T)) (ha : PA X (e :: es) t) (hn : x ≠ "__name__" := by decide) (hdb : (x == ("__debug__" : Str)) = false := by decide)
  (he : starEach (e :: es) X.env = (false, eval e X.env) :: starEach es X.env := by rfl) (hpl : (backTo pos (starEach es X.env)).any (·.1) = false := by rfl) : PE X (.Call (.Name x p) (e :: es) [] pos) (tCB r t) := by
 intro pins s σ H Q I h
 refine wpAny_Call_Name_kw (a5F I hg hm hv ?_ hn hdb)
 exact PyProof.Rows.callWith_type1 (thn (ha pos pins s σ H _ I h) fun us s1 ⟨vs, H1, I1, r1, q1⟩ => hc pins s1 σ H1 vs us Q I1 r1 q1) he hpl
end
end L2
namespace HT
open PySem PyProof.Rows
section
open PySem.SeqAt
open PySem.AutoSeq1 (wpAny_loadPart')
open PySem.MeetsSeq PySem.MeetsSeq2 PySem.MeetsSeq3
end
section
variable {prog : Program} {w : World} {A : Around} {E : Value → Shared → Prop} {s : Shared}
theorem cat_tup {t b : Addr} {vs ws : List Value} {Q : Value → Shared → Prop} (ht : IsTup s.heap t vs.toArray) (hb : IsTup s.heap b ws.toArray) (hv : vs ≠ [])
  (h1 : ws = [] → Q (.ref t) s) (h2 : ws ≠ [] → Q (.ref s.heap.objs.size) { s with heap := s.heap.push { cls := .type "tuple", data := .seq (vs ++ ws).toArray } })
  (hsz : vs.length + ws.length ≤ sizeLine) : wpAny (model prog w) A (binaryOp .Add (.ref t) (.ref b)) Q E s := by
 obtain ⟨⟨cls, dd, data, sl⟩, ho, hc, n, hd⟩ := id ht
 obtain ⟨⟨cls2, dd2, data2, sl2⟩, ho2, hc2, n2, hd2⟩ := id hb
 simp only at hc hd hc2 hd2
 subst hc hd hc2 hd2
 have e : vs.toArray ++ ws.toArray = (vs ++ ws).toArray := by simp
 by_cases hw : ws = []
 ·exact concat_meets ⟨_, ho, rfl⟩ ⟨_, ho2, rfl⟩ noFill_tuple_add seq_tuple_add PySem.F.slot_tuple_add PySem.F.entry_tuple_add (PySem.F.args_tuple_add_2 _ _)
   (tuple_addW1 t b vs.toArray ws.toArray n n2 dd dd2 sl sl2 (by simpa using hv) (by simp [hw])) ⟨ho, ho2, h1 hw⟩
 ·refine concat_meets ⟨_, ho, rfl⟩ ⟨_, ho2, rfl⟩ noFill_tuple_add seq_tuple_add PySem.F.slot_tuple_add PySem.F.entry_tuple_add (PySem.F.args_tuple_add_2 _ _)
   (tuple_addW2 t b vs.toArray ws.toArray n n2 dd dd2 sl sl2 (by simpa using hv) (by simpa using hw) (by rw [List.size_toArray, List.size_toArray]; exact hsz)) ⟨ho, ho2, ?_⟩
  rw [e]
  exact h2 hw
noncomputable def sIx (n d : Nat) : Option Int → Nat
 | none => d
 | some v => if v < 0 then (v + (n : Int)).toNat else min v.toNat n
theorem sIx_none (n d : Nat) : sIx n d none = d := rfl
theorem sIx_nat (n d k : Nat) : sIx n d (some (k : Int)) = min k n := by
 show (if (k : Int) < 0 then ((k : Int) + (n : Int)).toNat else min (k : Int).toNat n) = min k n
 rw [if_neg (by lia), Int.toNat_natCast]
theorem b7E (n d : Nat) (hd : d ≤ n) (o : Option Int) : sIx n d o ≤ n := by
 cases o with
 | none => exact hd
 | some v =>
   show (if v < 0 then (v + (n : Int)).toNat else min v.toNat n) ≤ n
   by_cases hv : v < 0
   ·rw [if_pos hv]; lia
   ·rw [if_neg hv]; exact Nat.min_le_right _ _
theorem b3H (v : Int) (n d : Nat) : (if v < 0 then max (v + (n : Int)) 0 else min v (n : Int)) = ((sIx n d (some v) : Nat) : Int) := by
 show (if v < 0 then max (v + (n : Int)) 0 else min v (n : Int)) = (((if v < 0 then (v + (n : Int)).toNat else min v.toNat n) : Nat) : Int)
 by_cases hv : v < 0
 ·simp only [if_pos hv]; lia
 ·simp only [if_neg hv]; lia
theorem b1W (lo hi : Option Int) (n : Nat) : Builtin.Slice.sliceAdjust lo hi 1 (n : Int) = (((sIx n 0 lo : Nat) : Int), ((sIx n n hi : Nat) : Int)) := by
 have h1 : ¬ ((1 : Int) < 0) := by lia
 unfold Builtin.Slice.sliceAdjust
 simp only [h1, if_false]
 refine Prod.ext ?_ ?_
 ·cases lo with
  | none => rfl
  | some v => exact b3H v n 0
 ·cases hi with
  | none => rfl
  | some v => exact b3H v n n
theorem b1t (i j : Nat) : Builtin.Slice.slicePlaces (i : Int) (j : Int) 1 = j - i := by
 unfold Builtin.Slice.slicePlaces
 have h1 : (1 : Int) > 0 := by lia
 simp only [h1, if_true, Int.ediv_one]
 split <;> lia
theorem a7c {v : Value} {o : Option Int} {Q : Option Int → Shared → Prop} (p : IsPart v o) (h : Q o s) : wpAny (model prog w) A (Builtin.Slice.slicePartIndex v) Q E s := by
 cases p with
 | none => exact slicePart_none h
 | int i t => exact slicePart_int h
theorem a3N {sl : Addr} {vl vu : Value} {lo hi : Option Int} {n : Nat} {Q : Int × Int × Nat → Shared → Prop} (hs : s.heap.IsSliceOf sl vl vu .none) (pl : IsPart vl lo) (pu : IsPart vu hi)
  (h : Q (((sIx n 0 lo : Nat) : Int), 1, sIx n n hi - sIx n 0 lo) s) : wpAny (model prog w) A (Builtin.Slice.sliceApplied (.ref sl) (pure (n : Int))) Q E s := by
 obtain ⟨os, hos, hcs, hds⟩ := id hs
 unfold Builtin.Slice.sliceApplied Builtin.Slice.sliceFields
 refine wpAny_bind (wpAny_bind (wpAny_field hos hds (x := vl) rfl (wpAny_bind (wpAny_field hos hds (x := vu) rfl (wpAny_bind (wpAny_field hos hds (x := .none) rfl (wpAny_pure ?_)))))))
 refine wpAny_bind (slicePart_none ?_)
 show wpAny _ _ (if ((1 : Int) == 0) = true then _ else _) _ _ s
 rw [if_neg (by decide)]
 refine wpAny_bind (a7c pl (wpAny_bind (a7c pu (wpAny_bind (wpAny_pure ?_)))))
 show wpAny _ _ (match Builtin.Slice.sliceAdjust lo hi 1 (n : Int) with | (lo, hi) => pure (lo, (1 : Int), Builtin.Slice.slicePlaces lo hi 1)) _ _ s
 rw [b1W lo hi n]
 show wpAny _ _ (pure (((sIx n 0 lo : Nat) : Int), (1 : Int), Builtin.Slice.slicePlaces ((sIx n 0 lo : Nat) : Int) ((sIx n n hi : Nat) : Int) 1)) _ _ s
 rw [b1t]
 exact wpAny_pure h
theorem b4o (xs : Array Value) (i k : Nat) : ((List.range k).filterMap fun (m : Nat) => xs[((i : Int) + (m : Int) * 1).toNat]?).toArray = ((xs.toList.drop i).take k).toArray := by
 have e : (fun (m : Nat) => xs[((i : Int) + (m : Int) * 1).toNat]?) = fun m => xs[i + m]? := by
  funext m
  have : ((i : Int) + (m : Int) * 1).toNat = i + m := by lia
  rw [this]
 rw [e]
 have := pick_run xs i k
 rw [List.filterMap_map] at this
 have e2 : ((fun x => xs[x]?) ∘ fun x => i + x) = fun m => xs[i + m]? := rfl
 rw [e2] at this
 rw [this]
theorem getItem_tuple_cut {t sl : Addr} {items : Array Value} {vl vu : Value} {lo hi : Option Int} {Q : Value → Shared → Prop} (ht : IsTup s.heap t items) (hs : s.heap.IsSliceOf sl vl vu .none) (pl : IsPart vl lo) (pu : IsPart vu hi)
  (hw : ¬ (sIx items.size 0 lo = 0 ∧ sIx items.size items.size hi = items.size))
  (h : Q (.ref s.heap.objs.size) { s with heap := s.heap.push { cls := .type "tuple", data := .seq ((items.toList.drop (sIx items.size 0 lo)).take (sIx items.size items.size hi - sIx items.size 0 lo)).toArray } })
  (hsz : items.size ≤ sizeLine) : wpAny (model prog w) A (getItem (.ref t) (.ref sl)) Q E s := by
 have htake : sizeOk (.seq ((items.toList.drop (sIx items.size 0 lo)).take (sIx items.size items.size hi - sIx items.size 0 lo)).toArray) := by
  show ((items.toList.drop (sIx items.size 0 lo)).take (sIx items.size items.size hi - sIx items.size 0 lo)).toArray.size ≤ sizeLine
  rw [List.size_toArray, List.length_take, List.length_drop, Array.length_toList]
  lia
 have hj : sIx items.size items.size hi ≤ items.size := b7E _ _ (Nat.le_refl _) hi
 obtain ⟨os, hos, hcs, hds⟩ := id hs
 have hTs : s.TypeIs (.ref sl) "slice" := ⟨os, hos, hcs⟩
 unfold getItem
 try with_reducible refine wpAny_holding ?_
 first | refine wpAny_bind (wpAny_pure ?_) | skip
 refine wpAny_bind (wpAny_sequenceKey ht.typeIs (by decide) ?_)
 refine wpAny_bind (wpAny_callSpecial?_slot (name := Str.ofString "__getitem__") ht.typeIs PyProof.Rows.slot_tuple_getitem
  (wpAny_call_entry PyProof.Rows.slot_tuple_getitem ht.typeIs entry_tuple_getitem ?_ (args_tuple_getitem _ _)))
 show wpAny _ _ (Builtin.Tuple.tupleItemsOf (.ref t) >>= _) _ _ s
 refine wpAny_bind (tupleItemsOf_ ht ?_)
 refine wpAny_bind (wpAny_typeOf hTs ?_)
 rw [if_pos (by decide)]
 refine wpAny_bind (a3N hs pl pu ?_)
 have hno : ¬ ((((sIx items.size 0 lo : Nat) : Int) == 0 && (1 : Int) == 1 && (sIx items.size items.size hi - sIx items.size 0 lo) == items.size) = true) := by
  intro q
  rw [Bool.and_eq_true, Bool.and_eq_true] at q
  have q1 : ((sIx items.size 0 lo : Nat) : Int) = 0 := eq_of_beq q.1.1
  have q2 : sIx items.size items.size hi - sIx items.size 0 lo = items.size := eq_of_beq q.2
  exact hw ⟨by lia, by lia⟩
 show wpAny _ _ (if (((sIx items.size 0 lo : Nat) : Int) == 0 && (1 : Int) == 1 && (sIx items.size items.size hi - sIx items.size 0 lo) == items.size) = true then _ else _) _ _ s
 rw [if_neg hno, b4o]
 first
  | exact wpAny_bind (m := Builtin.Tuple.tupleExact _) (wpAny_newObj_type (wpAny_pure ⟨_, rfl, wpAny_pure h⟩) htake)
  | exact wpAny_bind (m := Builtin.Tuple.tupleExact _) (wpAny_newObj_type (wpAny_bind (wpAny_pure (wpAny_pure ⟨_, rfl, wpAny_pure h⟩))) htake)
  | exact wpAny_bind (wpAny_bind (m := Builtin.Tuple.tupleExact _) (wpAny_newObj_type (wpAny_pure (wpAny_pure ⟨_, rfl, wpAny_pure h⟩)) htake))
  | exact wpAny_bind (wpAny_bind (m := Builtin.Tuple.tupleExact _) (wpAny_newObj_type (wpAny_pure ⟨_, rfl, wpAny_pure h⟩) htake))
end
end HT
namespace L2
open PySem PySem.Spec PyProof.Rows
noncomputable abbrev TO := St → Hp → (Option Int → Hp → Prop) → Prop
noncomputable def PO (X : Cx) (e : Option Expr) (t : TO) : Prop :=
 ∀ (pins : List (Addr × Obj)) (s : Shared) (σ : St) (H : Hp) (Q : Option Int → Hp → Prop), Inv X pins σ H s → t σ H Q →
   wpAny (model X.prog X.w) X.A (evalPart e X.env) (fun u s' => ∃ o H', Inv X pins σ H' s' ∧ IsPart u o ∧ Q o H') X.xe s
noncomputable def b5I : TO := fun _ H Q => Q none H
noncomputable def b8S (t : TE) : TO := fun σ H Q => t σ H fun x H1 => ∃ i, x = .int i ∧ Q (some i) H1
theorem a7l {ns : List Int} : ∀ {us : List Value}, Vals (ns.map V.int) us → IntsAre us ns := by
 induction ns with
 | nil => intro us r; rw [List.map_nil] at r; cases r; exact .nil
 | cons n ns ih =>
   intro us r
   rw [List.map_cons] at r
   cases r with
   | cons r1 r2 =>
     obtain ⟨t, e⟩ := r1
     subst e
     exact .cons n t (ih r2)
section
variable {X : Cx} {e : Expr} {te : TE} {lo hi : Option Expr} {tl th : TO} {pos p2 : Pos}
theorem b6s : PO X none b5I := by
 intro pins s σ H Q I h
 rw [evalPart_none]
 exact wpAny_pure ⟨none, H, I, .none, h⟩
theorem b6r (h : PE X e te) : PO X (some e) (b8S te) := by
 intro pins s σ H Q I hw
 rw [evalPart_some]
 refine thn (h pins s σ H _ I hw) fun u s1 ⟨x, H1, I1, r1, q1⟩ => ?_
 obtain ⟨i, rfl, q⟩ := q1
 obtain ⟨t, rfl⟩ := r1
 exact ⟨some i, H1, I1, .int i t, q⟩
noncomputable def SlR (X : Cx) (r : V → Option Int → Option Int → Hp → VK → Prop) : Prop :=
 ∀ (pins : List (Addr × Obj)) (s : Shared) (σ : St) (H : Hp) (x : V) (v vl vu : Value) (lo hi : Option Int) (sl : Addr) (Q : VK), Inv X pins σ H s → RelV x v → s.heap.IsSliceOf sl vl vu .none → IsPart vl lo → IsPart vu hi → r x lo hi H Q →
   ∃ T id, typeLookup (.type T) "__getitem__" = pure (some (.builtin id)) ∧ s.TypeIs v T ∧ wpAny (model X.prog X.w) X.A (getItem v (.ref sl)) (EP X pins σ Q) X.xe s
theorem SlR.or {r r' : V → Option Int → Option Int → Hp → VK → Prop} (h : SlR X r) (h' : SlR X r') : SlR X (fun x lo hi H Q => r x lo hi H Q ∨ r' x lo hi H Q) := by
 intro pins s σ H x v vl vu lo hi sl Q I rx hs pl pu q
 rcases q with q | q
 ·exact h pins s σ H x v vl vu lo hi sl Q I rx hs pl pu q
 ·exact h' pins s σ H x v vl vu lo hi sl Q I rx hs pl pu q
noncomputable def tSl (r : V → Option Int → Option Int → Hp → VK → Prop) (te : TE) (tl th : TO) : TE := fun σ H Q => te σ H fun x H1 => tl σ H1 fun l H2 => th σ H2 fun u H3 => r x l u H3 Q
theorem b4p {r : V → Option Int → Option Int → Hp → VK → Prop} (hr : SlR X r) (he : PE X e te) (hl : PO X lo tl) (hu : PO X hi th) : PE X (.Subscript e (.Slice lo hi none p2) pos) (tSl r te tl th) := by
 intro pins s σ H Q I h
 refine Subscript_ (thn (he pins s σ H _ I h) fun v s1 ⟨x, H1, I1, r1, q1⟩ => ?_)
 refine wpAny_Slice (thn (hl pins s1 σ H1 _ I1 q1) fun vl s2 ⟨l, H2, I2, pl, q2⟩ => thn (hu pins s2 σ H2 _ I2 q2) fun vu s3 ⟨u, H3, I3, pu, q3⟩ => ?_)
 rw [evalPart_none]
 refine wpAny_pure ?_
 have I4 : Inv X pins σ H3 { s3 with heap := s3.heap.push { cls := .type "slice", data := .fields #[vl, vu, .none] } } := I3.kept (t' := s3.toks) fun b ob q => Heap.get?_push_of_some _ q
 obtain ⟨T, id, hT, ht, hg⟩ := hr pins { s3 with heap := s3.heap.push { cls := .type "slice", data := .fields #[vl, vu, .none] } } σ H3 x v vl vu l u s3.heap.objs.size Q I4 r1 (Heap.IsSliceOf.new ..) pl pu q3
 show wpAny (model X.prog X.w) X.A (subscriptTail e (.Slice lo hi none p2) v (.ref s3.heap.objs.size)) (EP X pins σ Q) X.xe { s3 with heap := s3.heap.push { cls := .type "slice", data := .fields #[vl, vu, .none] } }
 exact tail_any (ops := [.ref s3.heap.objs.size, v]) ht hT hg (by with_unfolding_all rfl)
noncomputable def cutV (xs : List V) (lo hi : Option Int) : List V := (xs.drop (HT.sIx xs.length 0 lo)).take (HT.sIx xs.length xs.length hi - HT.sIx xs.length 0 lo)
theorem a6G (xs : List V) (lo hi : Option Int) : (cutV xs lo hi).length ≤ xs.length := by
 unfold cutV
 rw [List.length_take, List.length_drop]
 lia
noncomputable def rSlT (K : PySem.W.Frag) : V → Option Int → Option Int → Hp → VK → Prop := fun x lo hi H Q => ∃ a xs, x = .ref a ∧ SqT K H a xs ∧
 ¬ (HT.sIx xs.length 0 lo = 0 ∧ HT.sIx xs.length xs.length hi = xs.length) ∧ ∀ p, H p = none → Q (.ref p) (upd H p (.tup (cutV xs lo hi)))
theorem b7z : SlR X (rSlT X.K) := by
 intro pins s σ H x v vl vu lo hi sl Q I rx hs pl pu h
 obtain ⟨a, xs, rfl, hx, hw, q⟩ := h
 cases rx
 obtain ⟨its, r, ht, hz⟩ := I.tuple hx
 have hlen : its.toArray.size = xs.length := by rw [List.size_toArray]; exact r.length.symm
 refine ⟨"tuple", _, PyProof.Rows.slot_tuple_getitem.lookup, ht.typeIs, ?_⟩
 refine HT.getItem_tuple_cut ht hs pl pu (by rw [hlen]; exact hw) ?_ (by rw [hlen]; exact hz)
 rw [hlen]
 refine ⟨.ref s.heap.objs.size, _, I.laid (t' := s.toks) (o := .tup (cutV xs lo hi)) (fun b ob q => Heap.get?_push_of_some _ q) (Nat.le_refl _) ?_, rfl, q _ (I.hok.fresh (Nat.le_refl _))⟩
 exact ⟨Nat.le_trans (a6G xs lo hi) hz, _, (r.drop (HT.sIx xs.length 0 lo)).take (HT.sIx xs.length xs.length hi - HT.sIx xs.length 0 lo), a3z.new _ _⟩
noncomputable def b9j (K : PySem.W.Frag) : R2 := fun x y H Q => ∃ a b xs ys, x = .ref a ∧ y = .ref b ∧ SqT K H a xs ∧ SqT K H b ys ∧ xs ≠ [] ∧ xs.length + ys.length ≤ sizeLine ∧
 (ys = [] → Q (.ref a) H) ∧ (ys ≠ [] → ∀ p, H p = none → Q (.ref p) (upd H p (.tup (xs ++ ys))))
theorem Vals.nil_iff {xs : List V} {us : List Value} (r : Vals xs us) : us = [] ↔ xs = [] := by
 cases r with
 | nil => simp
 | cons _ _ => simp
theorem b6B : OpR X (binaryOp .Add) (b9j X.K) := by
 intro pins s σ H x y v u Q I rx ry h
 obtain ⟨a, b, xs, ys, rfl, rfl, ha, hb, hx, hz, q1, q2⟩ := h
 cases rx
 cases ry
 obtain ⟨its, r1, p1, _⟩ := I.tuple ha
 obtain ⟨its2, r2, p2, _⟩ := I.tuple hb
 refine HT.cat_tup p1 p2 (fun z => hx (r1.nil_iff.mp z)) (fun z => ⟨.ref a, H, I, rfl, q1 (r2.nil_iff.mp z)⟩) (fun z => ?_) (by rw [← r1.length, ← r2.length]; exact hz)
 refine ⟨.ref s.heap.objs.size, _, I.laid (t' := s.toks) (o := .tup (xs ++ ys)) (fun b ob q => Heap.get?_push_of_some _ q) (Nat.le_refl _) ?_, rfl, q2 (fun w => z (r2.nil_iff.mpr w)) _ (I.hok.fresh (Nat.le_refl _))⟩
 exact ⟨by rw [List.length_append]; exact hz, _, r1.append r2, a3z.new _ _⟩
end
noncomputable def ixN (n : Nat) (i : Int) : Option Nat := if 0 ≤ i then (if i < n then some i.toNat else none) else if -(n : Int) ≤ i then some (i + n).toNat else none
noncomputable def atI {α : Type} (xs : List α) (i : Int) : Option α := (ixN xs.length i).bind fun j => xs[j]?
theorem b3e {n : Nat} {i : Int} {j : Nat} (h : ixN n i = some j) : seqIndex? i n = some j ∧ j < n ∧ -(n : Int) ≤ i ∧ i < n := by
 unfold ixN at h
 by_cases h0 : 0 ≤ i
 ·rw [if_pos h0] at h
  by_cases h1 : i < n
  ·rw [if_pos h1] at h
   have e : i.toNat = j := Option.some.inj h
   exact ⟨by rw [seqIndex_of h0 h1, e], by lia, by lia, h1⟩
  ·rw [if_neg h1] at h; cases h
 ·rw [if_neg h0] at h
  by_cases h1 : -(n : Int) ≤ i
  ·rw [if_pos h1] at h
   have e : (i + n).toNat = j := Option.some.inj h
   exact ⟨by rw [seqIndex_neg (by lia) h1, e], by lia, h1, by lia⟩
  ·rw [if_neg h1] at h; cases h
theorem b0q {α : Type} {xs : List α} {i : Int} {v : α} (h : atI xs i = some v) : ∃ j, seqIndex? i xs.length = some j ∧ xs[j]? = some v ∧ j < xs.length ∧ -(xs.length : Int) ≤ i ∧ i < xs.length := by
 unfold atI at h
 cases e : ixN xs.length i with
 | none => rw [e] at h; cases h
 | some j =>
   rw [e] at h
   obtain ⟨h1, h2, h3, h4⟩ := b3e e
   exact ⟨j, h1, h, h2, h3, h4⟩
theorem a2k {α : Type} {xs : List α} {j : Nat} {v : α} (h : xs[j]? = some v) : atI xs (j : Int) = some v := by
 have hj : j < xs.length := (List.getElem?_eq_some_iff.mp h).1
 have e : ixN xs.length (j : Int) = some j := by
  unfold ixN
  rw [if_pos (by lia), if_pos (by lia)]; simp
 unfold atI; rw [e]; exact h
theorem b4Z {α : Type} (xs : List α) (v : α) : atI (xs ++ [v]) (-1) = some v := by
 have hl : (xs ++ [v]).length = xs.length + 1 := by simp
 have e : ixN (xs ++ [v]).length (-1) = some xs.length := by
  unfold ixN
  rw [hl, if_neg (by decide), if_pos (by lia)]
  congr 1
  lia
 unfold atI
 rw [e]
 show (xs ++ [v])[xs.length]? = some v
 simp
noncomputable def b3T (b : Expr) : Prop := ∀ o i, subscripted b false o i = operate [o, i] (getItem o i)
noncomputable def IxR (X : Cx) (r : R2) : Prop :=
 ∀ (value slice : Expr) (pins : List (Addr × Obj)) (s : Shared) (σ : St) (H : Hp) (x y : V) (v u : Value) (Q : VK), Inv X pins σ H s → RelV x v → RelV y u → r x y H Q →
   subscripted slice false v u = operate [v, u] (getItem v u) → wpAny (model X.prog X.w) X.A (subscriptTail value slice v u) (EP X pins σ Q) X.xe s
noncomputable def MtR (X : Cx) (id : String) (r : V → List V → Hp → VK → Prop) : Prop :=
 ∀ (pins : List (Addr × Obj)) (s : Shared) (σ : St) (H : Hp) (x : V) (xs : List V) (v : Value) (us : List Value) (Q : VK), Inv X pins σ H s → RelV x v → Vals xs us → r x xs H Q →
   wpAny (model X.prog X.w) X.A (call (.builtin id) (v :: us)) (EP X pins σ Q) X.xe s
section
variable {X : Cx} {a b : Expr} {ta tb : TE} {pos : Pos}
theorem b9p {r : R2} (hr : IxR X r) (ha : PE X a ta) (hb : PE X b tb) (hs : b3T b) : PE X (.Subscript a b pos) (tOp r ta tb) := by
 intro pins s σ H Q I h
 exact Subscript_ (binT ha hb I h fun v u s2 x y H2 I2 rx ry q => hr a b pins s2 σ H2 x y v u Q I2 rx ry q (hs _ _))
noncomputable def rIxL (K : PySem.W.Frag) : R2 := fun x y H Q => ∃ p xs i v, x = .ref p ∧ y = .int i ∧ SqL K H p xs ∧ atI xs i = some v ∧ Q v H
noncomputable def rIxT (K : PySem.W.Frag) : R2 := fun x y H Q => ∃ p xs i v, x = .ref p ∧ y = .int i ∧ SqT K H p xs ∧ atI xs i = some v ∧ Q v H
noncomputable def rIxS : R2 := fun x y H Q => ∃ z i c, x = .str z ∧ y = .int i ∧ z.length ≤ sizeLine ∧ atI z.cps.toList i = some c ∧ Q (.str ⟨#[c]⟩) H
theorem b3d : IxR X (rIxL X.K) := by
 intro value slice pins s σ H x y v u Q I rx ry h hs
 obtain ⟨p, xs, i, z, rfl, rfl, hq, he, q⟩ := h
 cases rx
 obtain ⟨t, rfl⟩ := ry
 obtain ⟨its, r, pl, hz⟩ := I.list hq
 obtain ⟨j, h1, h2, h3, h4, h5⟩ := b0q he
 obtain ⟨w, ew, rw'⟩ := r.get h2
 have hl := r.length
 have hn := a5D
 have fin : EP X pins σ Q w s := ⟨z, H, I, rw', q⟩
 by_cases h0 : 0 ≤ i
 ·have hj : i.toNat = j := by
   rw [seqIndex_of h0 h5] at h1
   exact Option.some.inj h1
  exact item_listR pl.isList h0 (by lia) (by rw [hj]; simpa using ew) fin hs
 ·have hj : (i + (its.toArray.size : Int)).toNat = j := by
   rw [seqIndex_neg (by lia) h4] at h1
   rw [List.size_toArray, ← hl]
   exact Option.some.inj h1
  exact subscriptTail_builtinR (x := w) pl.isList.typeIs slot_list_getitem.lookup
   (wpAny_getItem_list_neg (Q := fun r s' => r = w ∧ EP X pins σ Q r s') pl.isList (by lia) (by rw [List.size_toArray] <;> lia) (by lia) (by rw [hj]; simpa using ew) ⟨rfl, fin⟩) hs
theorem b8v : IxR X (rIxT X.K) := by
 intro value slice pins s σ H x y v u Q I rx ry h hs
 obtain ⟨p, xs, i, z, rfl, rfl, hq, he, q⟩ := h
 cases rx
 obtain ⟨t, rfl⟩ := ry
 obtain ⟨its, r, pl, hz⟩ := I.tuple hq
 obtain ⟨j, h1, h2, h3, h4, h5⟩ := b0q he
 obtain ⟨w, ew, rw'⟩ := r.get h2
 have hl := r.length
 have hn := a5D
 have fin : EP X pins σ Q w s := ⟨z, H, I, rw', q⟩
 exact subscriptTail_builtinR (x := w) pl.typeIs slot_tuple_getitem.lookup
  (getItem_tuple (j := j) (Q := fun r s' => r = w ∧ EP X pins σ Q r s') pl (by lia) (by lia) (by rw [List.size_toArray, ← hl]; exact h1) (by simpa using ew) ⟨rfl, fin⟩) hs
theorem b8w : IxR X rIxS := by
 intro value slice pins s σ H x y v u Q I rx ry h hs
 obtain ⟨z, i, c, rfl, rfl, hz, he, q⟩ := h
 obtain ⟨t, rfl⟩ := rx
 obtain ⟨t', rfl⟩ := ry
 obtain ⟨j, h1, h2, h3, h4, h5⟩ := b0q he
 have hl : z.cps.toList.length = z.length := by simp [Str.length]
 rw [hl] at h1 h4 h5
 have hn := a5D
 exact tail_any (typeIs_str s z t) slot_str_getitem.lookup (getItem_str (c := c) (by
  have e1 : decide (i < -(2 ^ 63 : Int)) = false := decide_eq_false (by lia)
  have e2 : decide (i ≥ 2 ^ 63) = false := decide_eq_false (by lia)
  rw [e1, e2, Bool.or_false]) (by rw [h1]; simpa using h2) ⟨.str ⟨#[c]⟩, H, I.tok _, ⟨_, rfl⟩, q⟩) hs
theorem b1G (its : List Value) (n j : Nat) (u : Value) : Obj.mapSeq (·.setIfInBounds j u) { cls := .type "list", data := .seq its.toArray n } = { cls := .type "list", data := .seq (its.set j u).toArray n } := by
 simp [Obj.mapSeq]
theorem Inv.lst {pins : List (Addr × Obj)} {σ : St} {H : Hp} {s : Shared} {p : Addr} {xs : List V} (I : Inv X pins σ H s) (h : H p = some (.lst xs)) :
  ∃ (its : List Value) (n : Nat), Vals xs its ∧ s.heap.get? p = some { cls := .type "list", data := .seq its.toArray n } ∧ xs.length ≤ sizeLine := by
 obtain ⟨z, its, n, r, e⟩ := I.hok p _ h
 exact ⟨its, n, r, e, z⟩
theorem Inv.lstUpd {pins : List (Addr × Obj)} {σ : St} {H : Hp} {s : Shared} {p : Addr} {xs ys : List V} {its its' : List Value} {n n' : Nat} {f : Obj → Obj} (I : Inv X pins σ H s) (h : H p = some (.lst xs))
  (ho : s.heap.get? p = some { cls := .type "list", data := .seq its.toArray n }) (hf : f { cls := .type "list", data := .seq its.toArray n } = { cls := .type "list", data := .seq its'.toArray n' }) (r : Vals ys its') (hz : ys.length ≤ sizeLine) (t : Nat) :
  Inv X pins σ (upd H p (.lst ys)) { s with heap := s.heap.update p f, toks := t } := by
 have e : (s.heap.update p f).get? p = some { cls := .type "list", data := .seq its'.toArray n' } := by
  rw [Heap.get?_update_self f ho (by rw [hf] <;> rfl), hf]
 refine I.write (x := p) (e := p) (by rw [h]; trivial) (.inl rfl) (fun b u hb q => (Heap.get?_update_other _ _ (Ne.symm hb)).trans q) ⟨_, e⟩ ?_
 exact ⟨hz, its', n', r, e⟩
noncomputable def b9g : V → V → V → Hp → (Hp → Prop) → Prop := fun o i v H Q => ∃ p xs k j, o = .ref p ∧ i = .int k ∧ H p = some (.lst xs) ∧ ixN xs.length k = some j ∧ Q (upd H p (.lst (xs.set j v)))
theorem b0z : PSet X b9g := by
 intro pins s σ H o i v ov iv u Q I ro ri rv h
 obtain ⟨p, xs, k, j, rfl, rfl, hp, hj, q⟩ := h
 cases ro
 obtain ⟨t, rfl⟩ := ri
 obtain ⟨its, n, r, ho, hz⟩ := I.lst hp
 obtain ⟨h1, h2, h3, h4⟩ := b3e hj
 have hl := r.length
 have hn := a5D
 have I' : Inv X pins σ (upd H p (.lst (xs.set j v))) { s with heap := s.heap.update p (Obj.mapSeq (·.setIfInBounds j u)) } :=
  I.lstUpd hp ho (b1G its n j u) (r.set rv j) (by rw [List.length_set]; exact hz) s.toks
 by_cases h0 : 0 ≤ k
 ·have hk : k.toNat = j := by
   rw [seqIndex_of h0 h4] at h1
   exact Option.some.inj h1
  exact PySem.W.ki_setAt ho h0 (by lia) (by rw [List.size_toArray, ← hl]; exact h4) (by rw [hk]; exact ⟨_, I', q⟩)
 ·have hk : (k + (its.toArray.size : Int)).toNat = j := by
   rw [seqIndex_neg (by lia) h3] at h1
   rw [List.size_toArray, ← hl]
   exact Option.some.inj h1
  exact PySem.W.ki_setBack ho (by lia) (by rw [List.size_toArray, ← hl]; exact h3) (by lia) (by rw [hk]; exact ⟨_, I', q⟩)
theorem a8D (lo hi : Option Int) (n : Nat) : (sliceBounds lo hi none n).1 = ((HT.sIx n 0 lo : Nat) : Int) ∧ (sliceBounds lo hi none n).2.1 = ((HT.sIx n n hi : Nat) : Int) ∧ (sliceBounds lo hi none n).2.2 = 1 := by
 refine ⟨?_, ?_, rfl⟩
 ·cases lo with
  | none => simp [sliceBounds, HT.sIx]
  | some i =>
    simp only [sliceBounds, HT.sIx, Option.getD_none, show (1 : Int) > 0 by decide, if_true]
    by_cases h : i < 0
    ·simp only [h, if_true] <;> lia
    ·simp only [h, if_false] <;> lia
 ·cases hi with
  | none => simp [sliceBounds, HT.sIx]
  | some i =>
    simp only [sliceBounds, HT.sIx, Option.getD_none, show (1 : Int) > 0 by decide, if_true]
    by_cases h : i < 0
    ·simp only [h, if_true] <;> lia
    ·simp only [h, if_false] <;> lia
theorem a7D (its : List Value) (lo hi : Option Int) : slicePick its.toArray lo hi none = ((its.drop (HT.sIx its.length 0 lo)).take (HT.sIx its.length its.length hi - HT.sIx its.length 0 lo)).toArray := by
 obtain ⟨h1, h2, h3⟩ := a8D lo hi its.toArray.size
 unfold slicePick
 rw [h1, h2, h3]
 simp only [sliceRange_one, pick_run, List.size_toArray] <;> rfl
noncomputable def rSlL (K : PySem.W.Frag) : V → Option Int → Option Int → Hp → VK → Prop := fun x lo hi H Q => ∃ a xs, x = .ref a ∧ SqL K H a xs ∧ ∀ p, H p = none → Q (.ref p) (upd H p (.lst (cutV xs lo hi)))
theorem b5P : SlR X (rSlL X.K) := by
 intro pins s σ H x v vl vu lo hi sl Q I rx hs pl pu h
 obtain ⟨a, xs, rfl, hx, q⟩ := h
 cases rx
 obtain ⟨its, r, ht, hz⟩ := I.list hx
 have hlen := r.length
 refine ⟨"list", _, slot_list_getitem.lookup, ht.isList.typeIs, ?_⟩
 refine wpAny_getItem_list_slice ht.isList hs pl pu .none (by simp) ?_ (by rw [List.size_toArray] <;> lia)
 rw [a7D, ← hlen]
 refine ⟨.ref s.heap.objs.size, _, I.laid (t' := s.toks) (o := .lst (cutV xs lo hi)) (fun b ob q => Heap.get?_push_of_some _ q) (Nat.le_refl _) ?_, rfl, q _ (I.hok.fresh (Nat.le_refl _))⟩
 exact ⟨Nat.le_trans (a6G xs lo hi) hz, _, 0, (r.drop (HT.sIx xs.length 0 lo)).take (HT.sIx xs.length xs.length hi - HT.sIx xs.length 0 lo), Heap.get?_push_size _ rfl⟩
noncomputable def a6W : V → Bool
 | .non => true
 | .bl _ => true
 | .int _ => true
 | .str _ => true
 | _ => false
noncomputable def eqV : V → V → Bool
 | .non, .non => true
 | .bl a, .bl b => a == b
 | .bl a, .int b => (if a then 1 else 0) == b
 | .int a, .bl b => a == (if b then 1 else 0)
 | .int a, .int b => a == b
 | .str a, .str b => a == b
 | _, _ => false
theorem b8H {A : Around} {s : Shared} {y x : V} {u v : Value} (ry : RelV y u) (rx : RelV x v) (fy : a6W y = true) (fx : a6W x = true) : SeqAt.EqAt A s u v (eqV y x) := by
 cases y with
 | non =>
   cases ry
   cases x with
   | non => cases rx; exact SeqAt.EqAt.same _
   | bl b => cases rx; exact SeqAt.EqAt.none_bool b
   | int b => obtain ⟨t, rfl⟩ := rx; exact SeqAt.EqAt.none_int b t
   | str b => obtain ⟨t, rfl⟩ := rx; exact SeqAt.EqAt.none_str b t
   | _ => exact absurd (show false = true from fx) Bool.false_ne_true
 | bl a =>
   cases ry
   cases x with
   | non => cases rx; exact SeqAt.EqAt.bool_none a
   | bl b => cases rx; exact SeqAt.EqAt.bool_bool a b
   | int b => obtain ⟨t, rfl⟩ := rx; exact SeqAt.EqAt.bool_int a b t
   | str b => obtain ⟨t, rfl⟩ := rx; exact SeqAt.EqAt.bool_str a b t
   | _ => exact absurd (show false = true from fx) Bool.false_ne_true
 | int a =>
   obtain ⟨t', rfl⟩ := ry
   cases x with
   | non => cases rx; exact SeqAt.EqAt.int_none a t'
   | bl b => cases rx; exact SeqAt.EqAt.int_bool a t' b
   | int b => obtain ⟨t, rfl⟩ := rx; exact SeqAt.EqAt.int_int a t' b t
   | str b => obtain ⟨t, rfl⟩ := rx; exact SeqAt.EqAt.int_str a t' b t
   | _ => exact absurd (show false = true from fx) Bool.false_ne_true
 | str a =>
   obtain ⟨t', rfl⟩ := ry
   cases x with
   | non => cases rx; exact SeqAt.EqAt.str_none a t'
   | bl b => cases rx; exact SeqAt.EqAt.str_bool a t' b
   | int b => obtain ⟨t, rfl⟩ := rx; exact SeqAt.EqAt.str_int a t' b t
   | str b => obtain ⟨t, rfl⟩ := rx; exact SeqAt.EqAt.str_str a t' b t
   | _ => exact absurd (show false = true from fx) Bool.false_ne_true
 | _ => exact absurd (show false = true from fy) Bool.false_ne_true
noncomputable def eqU (x : V) (u : Value) : Bool := match u with
 | .none => eqV .non x
 | .bool b => eqV (.bl b) x
 | .int i _ => eqV (.int i) x
 | .str z _ => eqV (.str z) x
 | _ => false
theorem b5u {x y : V} {u : Value} (r : RelV y u) (f : a6W y = true) : eqU x u = eqV y x := by
 cases y with
 | non => cases r; rfl
 | bl b => cases r; rfl
 | int i => obtain ⟨t, rfl⟩ := r; rfl
 | str z => obtain ⟨t, rfl⟩ := r; rfl
 | _ => exact absurd (show false = true from f) Bool.false_ne_true
theorem a6L {x : V} : ∀ {xs : List V} {us : List Value}, Vals xs us → xs.all a6W = true → us.any (eqU x) = xs.any fun y => eqV y x
 | _, _, .nil, _ => rfl
 | y :: xs, u :: us, .cons r t, f => by
   rw [List.all_cons, Bool.and_eq_true] at f
   rw [List.any_cons, List.any_cons, b5u r f.1, a6L t f.2]
theorem a5d {A : Around} {s : Shared} {x : V} {v : Value} (rx : RelV x v) (fx : a6W x = true) : ∀ {xs : List V} {us : List Value}, Vals xs us → xs.all a6W = true → ∀ u ∈ us, SeqAt.EqAt A s u v (eqU x u)
 | _, _, .nil, _ => fun u hu => by cases hu
 | y :: xs, u :: us, .cons r t, f => fun u' hu => by
   rw [List.all_cons, Bool.and_eq_true] at f
   rcases List.mem_cons.mp hu with rfl | hu
   ·rw [b5u r f.1]; exact b8H r rx f.1 fx
   ·exact a5d rx fx t f.2 u' hu
noncomputable def inV (x : V) (xs : List V) : Bool := xs.any fun y => eqV y x
noncomputable def rIn (K : PySem.W.Frag) (neg : Bool) : R2 := fun x y H Q => ∃ p xs, y = .ref p ∧ (SqL K H p xs ∨ SqT K H p xs) ∧ a6W x = true ∧ xs.all a6W = true ∧ Q (.bl (if neg then !inV x xs else inV x xs)) H
theorem b2E : OpR X (compareOp .In) (rIn X.K false) := by
 intro pins s σ H x y v u Q I rx ry h
 obtain ⟨p, xs, rfl, hq, fx, fs, q⟩ := h
 cases ry
 rcases hq with hq | hq
 ·obtain ⟨its, r, pl, hz⟩ := I.list hq
  refine SeqAt.in_listAt (eqU x) pl.isList (fun w hw => a5d rx fx r fs w (by simpa using hw)) ⟨.bl _, H, I, rfl, ?_⟩
  rw [show its.toArray.any (eqU x) = its.any (eqU x) by simp, a6L r fs]
  exact q
 ·obtain ⟨its, r, pl, hz⟩ := I.tuple hq
  refine SeqAt.in_tupleAt (eqU x) pl (fun w hw => a5d rx fx r fs w (by simpa using hw)) ⟨.bl _, H, I, rfl, ?_⟩
  rw [show its.toArray.any (eqU x) = its.any (eqU x) by simp, a6L r fs]
  exact q
theorem a8J : OpR X (compareOp .NotIn) (rIn X.K true) := by
 intro pins s σ H x y v u Q I rx ry h
 obtain ⟨p, xs, rfl, hq, fx, fs, q⟩ := h
 cases ry
 rcases hq with hq | hq
 ·obtain ⟨its, r, pl, hz⟩ := I.list hq
  refine SeqAt.notIn_listAt (eqU x) pl.isList (fun w hw => a5d rx fx r fs w (by simpa using hw)) ⟨.bl _, H, I, rfl, ?_⟩
  rw [show its.toArray.any (eqU x) = its.any (eqU x) by simp, a6L r fs]
  exact q
 ·obtain ⟨its, r, pl, hz⟩ := I.tuple hq
  refine SeqAt.notIn_tupleAt (eqU x) pl (fun w hw => a5d rx fx r fs w (by simpa using hw)) ⟨.bl _, H, I, rfl, ?_⟩
  rw [show its.toArray.any (eqU x) = its.any (eqU x) by simp, a6L r fs]
  exact q
theorem a4a : a6R X (.builtin "len") (fun xs H Q => ∃ p ys, xs = [.ref p] ∧ (SqL X.K H p ys ∨ SqT X.K H p ys) ∧ Q (.int ys.length) H) := by
 intro pins s σ H xs us Q I r h
 obtain ⟨p, ys, rfl, hq, q⟩ := h
 obtain ⟨u, rfl, rx⟩ := a5k r
 cases rx
 have hn := a5D
 rcases hq with hq | hq
 ·obtain ⟨its, r', pl, hz⟩ := I.list hq
  have hlen := r'.length
  exact Calls.call_len_list pl.isList (by simp only [List.size_toArray] <;> lia) ⟨.int ys.length, H, I.tok _, ⟨s.toks + 1, by rw [List.size_toArray, hlen]⟩, q⟩
 ·obtain ⟨its, r', pl, hz⟩ := I.tuple hq
  have hlen := r'.length
  exact len_tuple pl (by simp only [List.size_toArray] <;> lia) ⟨.int ys.length, H, I.tok _, ⟨s.toks + 1, by rw [List.size_toArray, hlen]⟩, q⟩
theorem a9q : a6R X (.builtin "len") (fun xs H Q => ∃ z, xs = [.str z] ∧ z.length ≤ sizeLine ∧ Q (.int z.length) H) := by
 intro pins s σ H xs us Q I r h
 obtain ⟨z, rfl, hz, q⟩ := h
 obtain ⟨u, rfl, t, rfl⟩ := a5k r
 have hn := a5D
 exact len_str (by lia) ⟨.int z.length, H, I.tok _, ⟨_, rfl⟩, q⟩
theorem a3Z : a6R X (.type "list") (fun xs H Q => ∃ p ys, xs = [.ref p] ∧ (SqL X.K H p ys ∨ SqT X.K H p ys) ∧ ∀ l, H l = none → Q (.ref l) (upd H l (.lst ys))) := by
 intro pins s σ H xs us Q I r h
 obtain ⟨p, ys, rfl, hq, q⟩ := h
 obtain ⟨u, rfl, rx⟩ := a5k r
 cases rx
 have fin : ∀ (its : List Value), Vals ys its → ys.length ≤ sizeLine → ∀ (h' : Heap) (c' : Nat), (∀ b o', s.heap.get? b = some o' → h'.get? b = some o') →
   h'.get? s.heap.objs.size = some { cls := .type "list", dict := none, data := .seq its.toArray c', slots := #[] } → EP X pins σ Q (.ref s.heap.objs.size) { s with heap := h' } := fun its r' hz h' c' kp e =>
  ⟨.ref s.heap.objs.size, _, I.laid (t' := s.toks) kp (Nat.le_refl _) (show a2J X.prog X.w _ h' _ (.lst ys) from ⟨hz, its, c', r', e⟩), rfl, q _ (I.hok.fresh (Nat.le_refl _))⟩
 rcases hq with hq | hq
 ·obtain ⟨its, r', pl, hz⟩ := I.list hq
  have hlen := r'.length
  obtain ⟨o, ho, hc, n, hd⟩ := pl.isList
  exact call_list_seq p (.inl rfl) ho hc hd (fun h' c' kp e => fin its r' hz h' c' kp e) (by simp only [List.size_toArray] <;> lia)
 ·obtain ⟨its, r', pl, hz⟩ := I.tuple hq
  have hlen := r'.length
  obtain ⟨o, ho, hc, n, hd⟩ := pl
  exact call_list_seq p (.inr rfl) ho hc hd (fun h' c' kp e => fin its r' hz h' c' kp e) (by simp only [List.size_toArray] <;> lia)
theorem a3L : a6R X (.type "tuple") (fun xs H Q => ∃ p ys, xs = [.ref p] ∧ ((SqL X.K H p ys ∧ ∀ l, H l = none → Q (.ref l) (upd H l (.tup ys))) ∨ (SqT X.K H p ys ∧ Q (.ref p) H))) := by
 intro pins s σ H xs us Q I r h
 obtain ⟨p, ys, rfl, h⟩ := h
 obtain ⟨u, rfl, rx⟩ := a5k r
 cases rx
 rcases h with ⟨hq, q⟩ | ⟨hq, q⟩
 ·obtain ⟨its, r', pl, hz⟩ := I.list hq
  have hlen := r'.length
  refine call_tuple_list pl.isList (fun h' kp => ?_) (by simp only [List.size_toArray] <;> lia)
  have I1 : Inv X pins σ H { s with heap := h' } := I.kept (t' := s.toks) kp
  have I2 : Inv X pins σ (upd H h'.objs.size (.tup ys)) { s with heap := h'.push { cls := .type "tuple", data := .seq its.toArray } } :=
   I1.laid (t' := s.toks) (fun b o e => Heap.get?_push_of_some _ e) (Nat.le_refl _) (show a2J X.prog X.w _ _ _ (.tup ys) from ⟨hz, its, r', a3z.new _ _⟩)
  exact ⟨.ref h'.objs.size, _, I2, rfl, q _ (I1.hok.fresh (Nat.le_refl _))⟩
 ·obtain ⟨its, r', pl, hz⟩ := I.tuple hq
  exact call_tuple_same pl ⟨.ref p, H, I, rfl, q⟩
noncomputable def tyV (K : PySem.W.Frag) (T : String) (x : V) (H : Hp) : Prop := match x with
 | .str _ => T = "str"
 | .int _ => T = "int"
 | .ref p => (T = "list" ∧ ∃ xs, SqL K H p xs) ∨ (T = "tuple" ∧ ∃ o, K.lookup p = some o ∧ o.cls = .type "tuple" ∧ o.dict = none) ∨
   (T = "dict" ∧ ((∃ kvs, H p = some (.dK kvs)) ∨ ∃ kvs, H p = some (.dT kvs))) ∨ (T = "set" ∧ ∃ S n, H p = some (.set S n))
 | _ => False
theorem b5d {pins : List (Addr × Obj)} {σ : St} {H : Hp} {s : Shared} {T : String} {x : V} {v : Value} (I : Inv X pins σ H s) (r : RelV x v) (ty : tyV X.K T x H) :
  s.TypeIs v T ∧ ∀ a, v = .ref a → ∃ ob, s.heap.get? a = some ob ∧ ob.dict = none := by
 cases x with
 | str z =>
   obtain ⟨t, rfl⟩ := r
   cases (show T = "str" from ty)
   exact ⟨typeIs_str s z t, fun _ e => nomatch e⟩
 | int i =>
   obtain ⟨t, rfl⟩ := r
   cases (show T = "int" from ty)
   exact ⟨typeIs_int s i t, fun _ e => nomatch e⟩
 | ref p =>
   cases r
   rcases ty with ⟨rfl, xs, hq⟩ | ⟨rfl, o, hk, hc, hd⟩ | ⟨rfl, hk⟩ | ⟨rfl, S, n, hk⟩
   ·obtain ⟨its, _, pl, _⟩ := I.list hq
    refine ⟨pl.isList.typeIs, fun a e => ?_⟩
    cases e
    obtain ⟨o, n, e, c, hd, _⟩ := pl
    exact ⟨o, e, hd⟩
   ·refine ⟨⟨o, I.kIn p o hk, hc⟩, fun a e => ?_⟩
    cases e
    exact ⟨o, I.kIn _ o hk, hd⟩
   ·have z : ∃ o, s.heap.get? p = some o ∧ o.ExactDict := by
     rcases hk with ⟨kvs, hk⟩ | ⟨kvs, hk⟩
     ·obtain ⟨_, _, _, _, o, _, _, e, ex, _⟩ := I.hok p _ hk
      exact ⟨o, e, ex⟩
     ·obtain ⟨_, _, _, _, o, _, _, e, ex, _⟩ := I.hok p _ hk
      exact ⟨o, e, ex⟩
    obtain ⟨o, e, ex⟩ := z
    refine ⟨⟨o, e, ex.1⟩, fun a e2 => ?_⟩
    cases e2
    exact ⟨o, e, ex.2.1⟩
   ·obtain ⟨o, _, _, _, e, ex, _⟩ := I.hok p _ hk
    refine ⟨⟨o, e, ex.1⟩, fun a e2 => ?_⟩
    cases e2
    exact ⟨o, e, ex.2.1⟩
 | _ => exact False.elim ty
noncomputable def tBM (K : PySem.W.Frag) (T : String) (r : V → List V → Hp → VK → Prop) (to : TE) (t : TA) : TE := fun σ H Q => to σ H fun x H1 => tyV K T x H1 ∧ t σ H1 fun xs H2 => r x xs H2 Q
variable {o e : Expr} {es : List Expr} {to : TE} {t : TA} {name : Str} {apos cpos : Pos} {T id : String} {r : V → List V → Hp → VK → Prop}
theorem b9q (pa : PlainAttrs T) (slot : Slot T name id) (hty : typeOf (.builtin id) = pure (.type "method_descriptor")) (hm : MtR X id r) (ho : PE X o to) (ha : PA X (e :: es) t)
  (hbase : attributeBase o name X.env (eval o X.env) = eval o X.env := by rfl)
  (hfew : ((backTo cpos (starEach (e :: es) X.env)).all (fun x => !x.1) && (backToKw cpos (keywordEach [] X.env)).all (fun x => x.1.isSome)
   && decide ((e :: es).length + ([] : List Keyword).length + (if ([] : List Keyword).isEmpty then 0 else 1) < 30)) = true := by rfl)
  (hline : (apos.endLine == cpos.line) = true := by rfl) (hs : starEach (e :: es) X.env = (false, eval e X.env) :: starEach es X.env := by rfl) (hplain : (backTo cpos (starEach es X.env)).any (·.1) = false := by rfl) :
  PE X (.Call (.Attribute o name apos) (e :: es) [] cpos) (tBM X.K T r to t) := by
 intro pins s σ H Q I h
 refine wpAny_Call_method_late hbase hfew hline rfl (thn (ho pins s σ H _ I h) fun v s1 ⟨x, H1, I1, r1, ty, q1⟩ => ?_)
 obtain ⟨h1, h2⟩ := b5d I1 r1 ty
 refine ⟨T, id, pa, slot, hty, h1, h2, ?_⟩
 have hA := ha cpos pins s1 σ H1 _ I1 q1
 rw [hs] at hA ⊢
 refine Calls.callWith_builtin (by show (false || (backTo cpos (starEach es X.env)).any (·.1)) = false; rw [hplain] <;> rfl) (Calls.evalArgs_plain ?_)
 exact thn hA fun us s2 ⟨vs, H2, I2, r2, q2⟩ => hm pins s2 σ H2 x vs v us Q I2 r1 r2 q2
end
noncomputable def MtM (X : Cx) (id : String) (r : V → List V → Hp → VK → Prop) : Prop :=
 ∀ (pins : List (Addr × Obj)) (s : Shared) (σ : St) (H : Hp) (x : V) (xs : List V) (v : Value) (us : List Value) (Q : VK), Inv X pins σ H s → RelV x v → Vals xs us → r x xs H Q →
   wpAny (model X.prog X.w) X.A (call (.builtin id) (v :: us)) (EP X pins σ Q) X.xe s
theorem Vals.one : ∀ {x : V} {us : List Value}, Vals [x] us → ∃ u, us = [u] ∧ RelV x u
 | _, _, .cons r .nil => ⟨_, rfl, r⟩
theorem Vals.eraseIdx : ∀ {xs : List V} {us : List Value} (i : Nat), Vals xs us → Vals (xs.eraseIdx i) (us.eraseIdx i)
 | _, _, _, .nil => .nil
 | _, _, 0, .cons _ t => t
 | _, _, i + 1, .cons r t => .cons r (Vals.eraseIdx i t)
theorem Vals.reverse {xs : List V} {us : List Value} (h : Vals xs us) : Vals xs.reverse us.reverse := by
 induction h with
 | nil => exact .nil
 | cons r t ih => rw [List.reverse_cons, List.reverse_cons]; exact Vals.append ih (.cons r .nil)
theorem Vals.rep {xs : List V} {us : List Value} (h : Vals xs us) : ∀ k : Nat, Vals (List.replicate k xs).flatten (List.replicate k us).flatten
 | 0 => .nil
 | k + 1 => by
   rw [List.replicate_succ, List.replicate_succ, List.flatten_cons, List.flatten_cons]
   exact Vals.append h (Vals.rep h k)
theorem a8U {α : Type} : ∀ (l : List α) (i : Nat), (l.eraseIdx i).length ≤ l.length
 | [], _ => Nat.le_refl _
 | _ :: _, 0 => Nat.le_succ _
 | _ :: r, i + 1 => Nat.succ_le_succ (a8U r i)
theorem a6A (its : List Value) : ∀ (k : Nat) (acc : List Value),
  List.foldl (fun x1 x2 => x1 ++ x2) acc.toArray (List.replicate k its.toArray) = (acc ++ (List.replicate k its).flatten).toArray
 | 0, acc => by simp
 | k + 1, acc => by
   have e : acc.toArray ++ its.toArray = (acc ++ its).toArray := by simp
   have e2 : (acc ++ its) ++ (List.replicate k its).flatten = acc ++ (List.replicate (k + 1) its).flatten := by
    rw [List.replicate_succ, List.flatten_cons, List.append_assoc]
   rw [← e2, ← a6A its k (acc ++ its), ← e, List.replicate_succ, List.foldl_cons]
section
variable {X : Cx} {pins : List (Addr × Obj)} {σ : St} {H : Hp} {s : Shared} {l b : Addr} {xs ys zs : List V}
theorem Inv.lset {its its' : List Value} {n : Nat} {f : Array Value → Array Value} {t' : Nat} (I : Inv X pins σ H s) (hH : H l = some (.lst xs))
  (e : s.heap.get? l = some { cls := .type "list", data := .seq its.toArray n }) (hf : f its.toArray = its'.toArray) (hv : Vals ys its') (hz : ys.length ≤ sizeLine) :
  Inv X pins σ (upd H l (.lst ys)) { s with heap := s.heap.update l (Obj.mapSeq f), toks := t' } := by
 have q := PySem.IsL.update e f
 rw [hf] at q
 refine I.write (x := l) (e := l) (by rw [hH]; exact trivial) (.inl rfl) (fun b' u hb hu => (Heap.get?_update_other s.heap (Obj.mapSeq f) (Ne.symm hb)).trans hu) ⟨_, q⟩ ?_
 exact ⟨hz, its', _, hv, q⟩
theorem Inv.lnew {its : List Value} {t' : Nat} (I : Inv X pins σ H s) (hv : Vals ys its) (hz : ys.length ≤ sizeLine) :
  Inv X pins σ (upd H s.heap.objs.size (.lst ys)) { s with heap := s.heap.push { cls := .type "list", data := .seq its.toArray }, toks := t' } :=
 I.laid (fun _ _ q => Heap.get?_push_of_some _ q) (Nat.le_refl _) ⟨hz, its, 0, hv, Heap.get?_push_size _ rfl⟩
theorem Inv.fresh (I : Inv X pins σ H s) : H s.heap.objs.size = none := I.hok.fresh (Nat.le_refl _)
theorem Inv.lstM (I : Inv X pins σ H s) (hH : H l = some (.lst xs)) : xs.length ≤ sizeLine ∧ ∃ (its : List Value) (n : Nat), Vals xs its ∧ xs.length = its.length ∧ s.heap.get? l = some { cls := .type "list", data := .seq its.toArray n } := by
 obtain ⟨z, its, n, r, e⟩ := I.hok l _ hH
 exact ⟨z, its, n, r, r.length, e⟩
theorem a8e {n : Nat} (h : n ≤ sizeLine) : Builtin.List.listTooLong n = false := by
 unfold Builtin.List.listTooLong
 exact decide_eq_false (by lia)
end
section
variable {X : Cx}
noncomputable def b6b : V → List V → Hp → VK → Prop := fun x vs H Q => ∃ l xs y, x = .ref l ∧ vs = [y] ∧ H l = some (.lst xs) ∧ xs.length < sizeLine ∧ Q .non (upd H l (.lst (xs ++ [y])))
theorem b2R : MtM X "list.append" b6b := by
 intro pins s σ H x vs v us Q I rx rv h
 obtain ⟨l, xs, y, rfl, rfl, hH, hz, q⟩ := h
 cases rx
 obtain ⟨u, rfl, ru⟩ := rv.one
 obtain ⟨z, its, n, r, hl, e⟩ := I.lstM hH
 refine call_meets F.slot_list_append ⟨_, e, rfl⟩ F.entry_list_append (F.args_list_append_2 _ _) (PySem.list_append l its.toArray n u (by rw [List.size_toArray]; lia)) ⟨e, ?_⟩
 refine ⟨.non, _, I.lset (its' := its ++ [u]) hH e (by simp) (r.append (.cons ru .nil)) ?_, rfl, q⟩
 rw [List.length_append, List.length_singleton]
 lia
noncomputable def b6a : V → List V → Hp → VK → Prop := fun x vs H Q => ∃ l b xs zs, x = .ref l ∧ vs = [.ref b] ∧ H l = some (.lst xs) ∧ H b = some (.lst zs) ∧ xs.length + zs.length ≤ sizeLine ∧ Q .non (upd H l (.lst (xs ++ zs)))
theorem b2Q : MtM X "list.extend" b6a := by
 intro pins s σ H x vs v us Q I rx rv h
 obtain ⟨l, b, xs, zs, rfl, rfl, hH, hB, hz, q⟩ := h
 cases rx
 obtain ⟨u, rfl, ru⟩ := rv.one
 cases ru
 obtain ⟨z, its, n, r, hl, e⟩ := I.lstM hH
 obtain ⟨z2, its2, n2, r2, hl2, e2⟩ := I.lstM hB
 have hsz : its.toArray.size + its2.toArray.size ≤ sizeLine := by rw [List.size_toArray, List.size_toArray]; lia
 have hlong : ¬ (!its.toArray.isEmpty && Builtin.List.listTooLong (its.toArray.size + its2.toArray.size)) = true := by
  rw [a8e hsz, Bool.and_false]
  exact Bool.false_ne_true
 refine call_meets F.slot_list_extend ⟨_, e, rfl⟩ F.entry_list_extend (F.args_list_extend_2 _ _)
  (AutoSeq1.list_extend_list_list_0 l its.toArray n b its2.toArray n2 hlong (by rw [List.size_toArray]; lia) (by lia)) ⟨e, e2, ?_⟩
 refine ⟨.non, _, I.lset (its' := its ++ its2) hH e (by simp) (r.append r2) ?_, rfl, q⟩
 rw [List.length_append]
 lia
noncomputable def b7K : V → List V → Hp → VK → Prop := fun x vs H Q => ∃ l xs i k y, x = .ref l ∧ vs = [.int i] ∧ H l = some (.lst xs) ∧ -(2 ^ 63) ≤ i ∧ i < 2 ^ 63 ∧ seqIndex? i xs.length = some k ∧ xs[k]? = some y ∧ Q y (upd H l (.lst (xs.eraseIdx k)))
theorem b4A : MtM X "list.pop" b7K := by
 intro pins s σ H x vs v us Q I rx rv h
 obtain ⟨l, xs, i, k, y, rfl, rfl, hH, h1, h2, hk, hy, q⟩ := h
 cases rx
 obtain ⟨u, rfl, ru⟩ := rv.one
 obtain ⟨t, rfl⟩ := ru
 obtain ⟨z, its, n, r, hl, e⟩ := I.lstM hH
 obtain ⟨w, hw, rw'⟩ := r.get hy
 refine call_meets F.slot_list_pop ⟨_, e, rfl⟩ F.entry_list_pop (F.args_list_pop_2 _ _)
  (MeetsSeq.list_pop_at l its.toArray n i t k w (fitsIndex_both h1 h2) (by rw [List.size_toArray, ← hl]; exact hk) (by rw [← Array.getElem?_toList]; exact hw) (by rw [List.size_toArray]; lia)) ⟨e, ?_⟩
 refine ⟨y, _, I.lset (its' := its.eraseIdx k) hH e ?_ (r.eraseIdx k) ?_, rw', q⟩
 ·show its.toArray.eraseIdxIfInBounds k = (its.eraseIdx k).toArray
  rw [List.eraseIdxIfInBounds_toArray]
 ·have := a8U xs k
  lia
noncomputable def rCat : R2 := fun x y H Q => ∃ l b xs zs, x = .ref l ∧ y = .ref b ∧ H l = some (.lst xs) ∧ H b = some (.lst zs) ∧ xs.length + zs.length ≤ sizeLine ∧ ∀ p, H p = none → Q (.ref p) (upd H p (.lst (xs ++ zs)))
theorem b8m : OpR X (binaryOp .Add) rCat := by
 intro pins s σ H x y v u Q I rx ry h
 obtain ⟨l, b, xs, zs, rfl, rfl, hH, hB, hz, q⟩ := h
 cases rx
 cases ry
 obtain ⟨z, its, n, r, hl, e⟩ := I.lstM hH
 obtain ⟨z2, its2, n2, r2, hl2, e2⟩ := I.lstM hB
 refine PySem.P.add_list e e2 ?_ (by rw [List.size_toArray, List.size_toArray]; lia)
 have ea : its.toArray ++ its2.toArray = (its ++ its2).toArray := by simp
 rw [ea]
 exact ⟨.ref _, _, I.lnew (t' := s.toks) (r.append r2) (by rw [List.length_append]; lia), rfl, q _ I.fresh⟩
noncomputable def rRep : R2 := fun x y H Q => ∃ l k xs, x = .ref l ∧ y = .int k ∧ H l = some (.lst xs) ∧ -(2 ^ 63) ≤ k ∧ k < 2 ^ 63 ∧ xs.length * k.toNat ≤ sizeLine ∧
 ∀ p, H p = none → Q (.ref p) (upd H p (.lst (List.replicate k.toNat xs).flatten))
theorem b0c {α : Type} (xs : List α) (k : Nat) : (List.replicate k xs).flatten.length = k * xs.length := by
 induction k with
 | zero => simp
 | succ k ih => rw [List.replicate_succ, List.flatten_cons, List.length_append, ih, Nat.succ_mul, Nat.add_comm]
theorem b8h : OpR X (binaryOp .Mult) rRep := by
 intro pins s σ H x y v u Q I rx ry h
 obtain ⟨l, k, xs, rfl, rfl, hH, h1, h2, hz, q⟩ := h
 cases rx
 obtain ⟨t, rfl⟩ := ry
 obtain ⟨z, its, n, r, hl, e⟩ := I.lstM hH
 have hlen : its.toArray.size * k.toNat ≤ sizeLine := by rw [List.size_toArray, ← hl]; exact hz
 have hcap : ¬ its.toArray.size * k.toNat > (2 ^ 63 - 1) / 8 := by
  have : (sizeLine : Nat) ≤ (2 ^ 63 - 1) / 8 := by decide
  lia
 have hfit : ¬ (!Builtin.List.listFitsIndex k) = true := by
  rw [fitsIndex_both h1 h2]
  exact Bool.false_ne_true
 have hlong : ¬ Builtin.List.listTooLong (its.toArray.size * k.toNat) = true := by
  rw [a8e hlen]
  exact Bool.false_ne_true
 have hnew : List.foldl (fun x1 x2 => x1 ++ x2) #[] (List.replicate (if its.toArray.isEmpty = true then 0 else k.toNat) its.toArray) = (List.replicate k.toNat its).flatten.toArray := by
  have f0 : ∀ m : Nat, List.foldl (fun x1 x2 => x1 ++ x2) #[] (List.replicate m its.toArray) = (List.replicate m its).flatten.toArray := fun m => by
   have := a6A its m []
   rw [List.nil_append] at this
   exact this
  rw [f0]
  cases its with
  | nil => simp
  | cons a r' => rw [if_neg (by simp)]
 refine wpAny_binaryOp_repeat_ref (T := "list") (U := "int") (by decide) ⟨_, e, rfl⟩ (fun s' => typeIs_int s' k t) noFill_list_mul F.fills_int_mul F.slot_int_rmul repeat_list F.slot_int_index.lookup
  (call_meets F.slot_int_rmul (typeIs_int s k t) F.entry_int_rmul (F.args_int_rmul_2 _ _) (int___rmul___int_list k t l its.toArray n)
   ⟨e, rfl, ⟨_, e, rfl⟩, call_meets F.slot_list_mul ⟨_, e, rfl⟩ F.entry_list_mul (F.args_list_mul_2 _ _) (AutoListH.list___mul___list_int_3 l its.toArray n k t hfit hcap hlong) ⟨e, ?_⟩⟩)
 rw [hnew]
 exact ⟨.ref _, _, I.lnew (t' := s.toks) (r.rep k.toNat) (by rw [b0c, Nat.mul_comm]; exact hz), rfl, q _ I.fresh⟩
end
section
variable {prog : Program} {w : World} {A : Around} {E : Value → Shared → Prop} {s : Shared}
end
section
variable {X : Cx}
end
end L2
namespace Att
open PySem PySem.W PySem.Calls PyProof.Rows
theorem a6u {P : Params} {h : Heap} : ∀ (ns : List Int) (vs : List Value), WellAll P h vs (ns.map WData.int) → IntsAre vs ns := by
 intro ns
 induction ns with
 | nil =>
   intro vs w
   rw [List.map_nil] at w
   cases w
   exact .nil
 | cons n ns ih =>
   intro vs w
   rw [List.map_cons] at w
   cases w with
   | cons a b =>
     cases a
     exact .cons _ _ (ih _ b)
theorem b2p {l : OpenLaw} {n : Nat} (hn : l.most = some n) {P : Params} {h : Heap} {args : List WData} {vals : List Value}
  (hpre : l.row.toRowW.claim.pre args = true) (hwl : WellAll P h vals args) :
  ∃ a vs ns, vals = [Value.ref a] ∧ args = [WData.list (ns.map WData.int)] ∧ h.get? a = some { cls := .type "list", data := .seq vs.toArray } ∧ IntsAre vs ns ∧ ns.length ≤ n := by
 have hsh : WShape.hasAll [] args [.list .int] = true := (pre_splitW hpre).1
 have hc : l.pre.holds [] { args := args } = true := (pre_splitW hpre).2
 obtain ⟨d, r, rfl, h1, h2⟩ := hasAllW_cons hsh
 obtain rfl := hasAllW_nil h2
 obtain ⟨xs, rfl, h3⟩ := hasW_list h1
 obtain ⟨ns, rfl⟩ := items_int h3
 have hlen : ns.length ≤ n := by
  unfold OpenLaw.pre at hc
  have h4 : (WTm.not (.lt (.lit (.int (n : Int))) (.len (.arg 0)))).holds [] { args := [.list (ns.map .int)] } = true := by
   have h4 := (holds_andW hc).1
   rw [hn] at h4
   exact h4
  have h5 := condW_of h4 (w_not (w_lt w_lit (w_len_list (w_arg rfl))))
  rw [List.length_map] at h5
  refine Nat.le_of_not_lt fun q => ?_
  have q' : (n : Int) < ((ns.length : Nat) : Int) := by lia
  first
   | (rw [decide_eq_true q'] at h5; exact absurd h5 (by decide))
   | (simp at h5; lia)
 cases hwl with
 | cons w1 w2 =>
   cases w2
   cases w1 with
   | list ho hall => exact ⟨_, _, ns, rfl, rfl, ho, a6u ns _ hall, hlen⟩
theorem b2w (l : OpenLaw) (args : List WData) : l.row.toRowW.claim.post args (.bool true) args = true :=
 postW_of (r := l.row.toRowW) (X := (true == true))
  (show WShape.has [] (.bool true) .bool = true by first | rfl | decide | simp [WShape.has, WShape.arms, WShape.armsAll])
  (show (WTm.eq .res (.lit (.bool true))).value [] { args := args, res := some (.bool true), after := args } = some (.bool (true == true)) from w_eq_bool (w_res rfl) w_lit) rfl
theorem attach_call {l : OpenLaw} {n : Nat} {q : Program} {loose : List Str} {XP : (Str → Option Value) → Heap → Prop} {YP : World → Heap → Prop} {d : DefRec}
  (hn : l.most = some n) (hdf : d.params.defaults = [])
  (call : ∀ (w : World) (s₀ s₁ : Shared) (mg mb : Str → Option Value) (fa : Addr) (o : Obj) (pm cd doc : Value) (a : Addr) (vs : List Value) (ns : List Int),
   Ground q loose [] XP w s₀ mg mb s₁.heap → YP w s₁.heap →
   s₁.heap.get? fa = some o → o.data = .func (docDef d.name d.params d.body d.scope pm cd doc) → s₁.heap.CodeRec cd d.name → mg d.name = some (.ref fa) →
   s₁.heap.get? a = some { cls := .type "list", data := .seq vs.toArray } → IntsAre vs ns → ns.length ≤ n → s₁.gens = #[] →
   codeAny (model l.prog w) callerA (.call (.ref fa) ⟨[.ref a], []⟩) (fun r s' => r = .ok (.ret (.bool true)) ∧ OldK s₁.heap s'.heap ∧ s'.os = s₁.os ∧ AllBare s'.gens) s₁) :
  WalkO q loose XP YP l.row.toRowW d [] (fun f vs => PySem.call f vs) := by
 intro w s₀ s₁ mg mb G Y fa o pm cd doc dV kV ho hd hcd hD hmg hg args vals as hpre hlay hrd hwl hlo
 obtain rfl : dV = .none := Dflts.none hD hdf
 obtain rfl : kV = .none := Dflts.noKw hD
 obtain ⟨a, vs, ns, rfl, rfl, hobj, hints, hlen⟩ := b2p hn hpre hwl
 refine enter_call (codeAny_mono (call w s₀ s₁ mg mb fa o pm cd doc a vs ns G Y ho (fd_plain hd) hcd hmg hobj hints hlen hg) fun r s' hq => ?_)
 obtain ⟨rfl, h2, h3, h4⟩ := hq
 exact ⟨.inl ⟨.bool true, .bool true, [], rfl, fun _ => rfl, .bool true, b2w l _, fun _ => ⟨List.Pairwise.nil, fun _ hm => (nomatch hm)⟩⟩, h2, h3, h4⟩
section
variable {prog : Program} {w : World} {A : Around} {E : Value → Shared → Prop} {s : Shared} {K : Frag}
end
end Att
namespace L2
open PySem PySem.Spec PyProof.Rows
theorem a5V : ∀ {vs : List Value} {ns : List Int}, IntsAre vs ns → Vals (ns.map V.int) vs
 | _, _, .nil => .nil
 | _, _, .cons n t h => .cons ⟨t, rfl⟩ (a5V h)
noncomputable def Only (H : Hp) : Prop := ∀ b, H b = none ∨ ∃ o xs, H b = some (.frz o (.lst xs))
theorem b4G {P : Program} {w : World} {K : PySem.W.Frag} {mg mb : Str → Option Value} {CX : CXT} {k : Nat} {fa a : Addr} {fd : FuncData} {x : Str} {sp : Sp} {s₁ : Shared} {vs : List Value} {ns : List Int}
  (KX : K.In s₁.heap) (hns : s₁.heap.Ns mainGlobals mg) (hb : s₁.heap.Ns builtinsNs mb) (hbb : ∀ x : Str, x ≠ "__name__" → mb x = bootBuiltins x) (hlim : s₁.heap.NoLimit) (hg : s₁.gens = #[])
  (ha : s₁.heap.get? a = some { cls := .type "list", data := .seq vs.toArray }) (hi : IntsAre vs ns) (hl : ns.length ≤ sizeLine) (hr : Room k callerA)
  (F : ∀ base : Heap, K.In base → base.Ns mainGlobals mg → FnOk P w K mg base CX k fa fd [x] sp) (hbind : ∀ (s : Shared) (u : Value), BindsTo s fd ⟨[u], []⟩ [(x, u)])
  (hsp : ∀ H : Hp, Only H → SqL K H a (ns.map V.int) → sp [.ref a] H (fun v _ => v = .bl true) fun _ _ _ => False)
  (hCX : ∀ H e s', CX [] H s₁ (fun _ _ _ => False) e s' → False) :
  codeAny (model P w) callerA (.call (.ref fa) ⟨[.ref a], []⟩) (fun r s' => r = .ok (.ret (.bool true)) ∧ OldK s₁.heap s'.heap ∧ s'.os = s₁.os ∧ AllBare s'.gens) s₁ := by
 have rv := a5V hi
 have lenV := hi.length
 -- from an abstract heap in which nothing but the script may be tracked
 have core : ∀ H : Hp, Only H → SqL K H a (ns.map V.int) → HOk P w H s₁.heap → (∀ b, H b ≠ none → b = a) → (H a ≠ none → K.lookup a = none) →
   codeAny (model P w) callerA (.call (.ref fa) ⟨[.ref a], []⟩) (fun r s' => r = .ok (.ret (.bool true)) ∧ OldK s₁.heap s'.heap ∧ s'.os = s₁.os ∧ AllBare s'.gens) s₁ := by
  intro H hO hS hok hA hK
  have base_of : ∀ {b : Addr} {o : Obj}, s₁.heap.get? b = some o → H b = none → (hidT s₁.heap H).get? b = some o := fun e n => b4L e n
  have noA : ∀ {b : Addr} {o : Obj} {es : Array DictEntry} {ep : Nat}, s₁.heap.get? b = some o → o.data = .dict es ep → H b = none := fun {b o es ep} e d => by
   cases q : H b with
   | none => rfl
   | some u =>
     have e' : b = a := hA b (by rw [q]; simp)
     subst e'
     rw [ha] at e; cases e
     have d' : Data.seq vs.toArray _ = Data.dict es ep := d
     cases d'
  have nsK : ∀ {b : Addr} {m : Str → Option Value}, s₁.heap.Ns b m → (hidT s₁.heap H).Ns b m := fun {b m} ⟨o, es, ep, e, d, r⟩ => ⟨o, es, ep, base_of e (noA e d), d, r⟩
  have hKb : K.In (hidT s₁.heap H) := fun b o e => base_of (KX b o e) (by
   cases q : H b with
   | none => rfl
   | some u =>
     have e' : b = a := hA b (by rw [q]; simp)
     subst e'
     rw [hK (by rw [q]; simp)] at e; cases e)
  have hM : Mod K mg (hidT s₁.heap H) := ⟨hKb, nsK hns, ⟨mb, nsK hb, hbb⟩, let ⟨mc, h1, h2⟩ := hlim; ⟨mc, nsK h1, h2⟩⟩
  have e0 : Env0 P w K mg (hidT s₁.heap H) callerA [] s₁ H := ⟨rfl, hM, fun b o e => b6E e, Nat.le_of_eq (b3j _ _), trivial, fun b hb => absurd (show b ∈ ([] : List Addr) from hb) (by simp), hok, .of_eq hg⟩
  refine codeAny_mono ((F _ hKb (nsK hns)).run callerA [] s₁ H ⟨[.ref a], []⟩ [.ref a] [.ref a] _ _ hr e0 (hbind s₁ (.ref a)) (.cons rfl .nil) (hsp H hO hS)) fun r s' h => ?_
  cases r with
  | error e => exact (hCX H e s' h).elim
  | ok fl =>
    cases fl with
    | next => exact False.elim h
    | brk => exact False.elim h
    | cont => exact False.elim h
    | ret u =>
      obtain ⟨v, H', os, bare, un, hok', r', q⟩ := h
      have q' : v = .bl true := q
      subst q'
      obtain rfl : u = Value.bool true := r'
      refine ⟨rfl, OldK.of_keep fun b o e => ?_, os, bare⟩
      cases q : H b with
      | none => exact un.keep b o e q (by intro z; exact absurd (show b ∈ ([] : List Addr) from z) (by simp)) (by simp)
      | some u =>
        rcases hO b with z | ⟨ob, xs, z⟩
        ·rw [q] at z; cases z
        ·have z2 := un.frzs b ob _ z
         obtain ⟨e1, _⟩ := hok b _ z
         obtain ⟨e2, _⟩ := hok' b _ z2
         rw [e] at e1; cases e1
         exact e2
 cases hk : K.lookup a with
 | some o =>
   -- the script is one of the module's own objects
   have e := KX a o hk
   rw [ha] at e
   cases e
   refine core (fun _ => none) (fun _ => .inl rfl) (.inr ⟨_, vs.toArray, _, hk, rfl, rfl, rfl, by rw [List.size_toArray, lenV]; exact hl, by simpa using rv⟩) (fun b u z => by have z' : (none : Option HO) = some u := z; cases z') (fun b z => absurd rfl z) fun z => absurd rfl z
 | none =>
   refine core (fun b => if b = a then some (.frz { cls := .type "list", data := .seq vs.toArray } (.lst (ns.map V.int))) else none) (fun b => ?_) (.inl (.inr ⟨{ cls := .type "list", data := .seq vs.toArray }, if_pos rfl⟩)) (fun b u z => ?_) (fun b z => ?_) fun _ => hk
   ·by_cases hb : b = a
    ·exact .inr ⟨_, _, if_pos hb⟩
    ·exact .inl (if_neg hb)
   ·by_cases hb : b = a
    ·have z' := (if_pos hb).symm.trans z
     cases z'
     subst hb
     exact ⟨ha, by rw [List.length_map]; exact hl, vs, _, rv, ha⟩
    ·have z' := (if_neg hb).symm.trans z
     cases z'
   ·by_cases hb : b = a
    ·exact hb
    ·exact absurd (if_neg hb) z
theorem b5A {l : PySem.W.OpenLaw} {n k : Nat} {q : Program} {loose : List Str} {XP : (Str → Option Value) → Heap → Prop} {YP : World → Heap → Prop} {d : DefRec} {K : Params → PySem.W.Frag} {CX : World → CXT} {sp : World → Sp} {x : Str}
  (hn : l.most = some n) (hn2 : n ≤ sizeLine) (hdf : d.params.defaults = []) (hr : Room k callerA)
  (hY : ∀ (w : World) (h : Heap), YP w h → (K w.params).In h)
  (F : ∀ (w : World) (mg : Str → Option Value) (fa : Addr) (h : Heap), (K w.params).In h → h.Ns mainGlobals mg → mg d.name = some (.ref fa) →
   ∃ fd : FuncData, (∀ (s : Shared) (u : Value), BindsTo s fd ⟨[u], []⟩ [(x, u)]) ∧
     ∀ base : Heap, (K w.params).In base → base.Ns mainGlobals mg → FnOk l.prog w (K w.params) mg base (CX w) k fa fd [x] (sp w))
  (hsp : ∀ (w : World) (H : Hp) (a : Addr) (ns : List Int), ns.length ≤ n → Only H → SqL (K w.params) H a (ns.map V.int) → sp w [.ref a] H (fun v _ => v = .bl true) fun _ _ _ => False)
  (hCX : ∀ (w : World) (H : Hp) (s : Shared) (e : Value) (s' : Shared), CX w [] H s (fun _ _ _ => False) e s' → False) :
  PySem.W.WalkO q loose XP YP l.row.toRowW d [] (fun f vs => PySem.call f vs) := by
 refine Att.attach_call hn hdf fun w s₀ s₁ mg mb fa o pm cd doc a vs ns G Y ho hd hcd hmg hobj hints hlen hg => ?_
 have KX := hY w _ Y
 obtain ⟨fd, hb, hF⟩ := F w mg fa _ KX G.T.g hmg
 exact b4G KX G.T.g G.T.b G.T.builtins G.T.nolimit hg hobj hints (Nat.le_trans hlen hn2) hr hF hb (fun H hO hS => hsp w H a ns hlen hO hS) fun H e s' => hCX w H s₁ e s'
noncomputable def a0x (s : Stmt) : Arguments := match s with
 | .FunctionDef _ a _ _ _ _ _ _ _ _ => a
 | _ => { posonlyargs := [], args := [], vararg := none, kwonlyargs := [], kw_defaults := [], kwarg := none, defaults := [] }
noncomputable def a0w (s : Stmt) : List Stmt := match s with
 | .FunctionDef _ _ b _ _ _ _ _ _ _ => b
 | _ => []
noncomputable def a0b (s : Stmt) : Scope := match s with
 | .FunctionDef _ _ _ _ _ _ sc _ _ _ => sc
 | _ => { kind := .function, names := [], isGenerator := false, isCoroutine := false }
noncomputable abbrev CX0 : CXT := fun _ _ _ _ _ _ => False
noncomputable abbrev E0 : XK := fun _ _ _ => False
theorem b9s {X : Cx} : b3U CX0 X E0 := fun _ _ _ _ _ _ _ h => h.elim
structure Fun (K : PySem.W.Frag) (x qual : Str) (st : Stmt) (f : Addr) (fd : FuncData) : Prop where
 ex : ∃ (oc : Value) (od : Option Addr) (kV doc pm : Value) (an : Option Addr) (cdv ct : Value) (osl : Array (Option Value)),
  fd = PySem.W.fnOf x qual (a0x st) (a0w st) (a0b st) .none kV doc pm an cdv ct ∧ K.lookup f = some ⟨oc, od, .func fd, osl⟩ ∧ PySem.W.codeIn K cdv qual = true
 kp : PySem.W.keepIn K (.ref f) = true
section
variable {P : Program} {w : World} {K : PySem.W.Frag} {mg : Str → Option Value} {base : Heap}
theorem Fun.ok {x qual : Str} {st : Stmt} {f : Addr} {fd : FuncData} {N ps : List Str} {k : Nat} {sp : Sp} (F : Fun K x qual st f fd) (S : FnScope N ps (a0b st)) (len : ∀ vs H Q E, sp vs H Q E → vs.length = ps.length)
  (hbody : ∀ (cdv : Value) (A : Around) (outer : List Env) (s : Shared) (H : Hp) (vs : List V) (Q : VK) (E : XK), Room k (A.deeper (envOfC qual (a0b st) s.heap.objs.size f cdv)) → sp vs H Q E →
   ∃ t, PSs (cxOf CX0 P w K mg base N qual (a0b st) f cdv A outer s H E).nox (a0w st) t ∧ t { nx := fun _ H' => Q .non H', rt := Q } (start N vs) H) : FnOk P w K mg base CX0 (k + 1) f fd ps sp := by
 obtain ⟨oc, od, kV, doc, pm, an, cdv, ct, osl, rfl, lk, hcd⟩ := F.ex
 refine b9H lk hcd S len fun A outer s H vs Q E hr hsp => ?_
 obtain ⟨t, h, q⟩ := hbody cdv A outer s H vs Q E hr hsp
 exact ⟨t, h.nox, q⟩
theorem Fun.binds {x qual : Str} {st : Stmt} {f : Addr} {fd : FuncData} {ps : List Str} (F : Fun K x qual st f fd)
  (h : ∀ (kV doc pm : Value) (an : Option Addr) (cdv ct : Value) (us : List Value), us.length = ps.length → bindArgs (PySem.W.fnOf x qual (a0x st) (a0w st) (a0b st) .none kV doc pm an cdv ct) ⟨us, []⟩ = pure (ps.zip us)) : a1f K fd ps [] := by
 obtain ⟨oc, od, kV, doc, pm, an, cdv, ct, osl, rfl, lk, hcd⟩ := F.ex
 exact .all (h kV doc pm an cdv ct)
theorem a0N {x qual : Str} {st : Stmt} {f : Addr} {oc : Value} {od an : Option Addr} {osl : Array (Option Value)} {kV doc pm cdv ct : Value} (l : K.lookup f = some ⟨oc, od, .func (PySem.W.fnOf x qual (a0x st) (a0w st) (a0b st) .none kV doc pm an cdv ct), osl⟩)
  (c : PySem.W.codeIn K cdv qual = true) (k : PySem.W.keepIn K (.ref f) = true) : Fun K x qual st f (PySem.W.fnOf x qual (a0x st) (a0w st) (a0b st) .none kV doc pm an cdv ct) := ⟨⟨oc, od, kV, doc, pm, an, cdv, ct, osl, rfl, l, c⟩, k⟩
end
section
variable {X : Cx}
end
theorem ite2 {c A B : Prop} [Decidable c] (h1 : c → A) (h2 : ¬ c → B) : if c then A else B := by
 by_cases h : c
 ·rw [if_pos h]
  exact h1 h
 ·rw [if_neg h]
  exact h2 h
noncomputable def Same (H H' : Hp) : Prop := ∀ b o, H b = some o → H' b = some o
theorem Same.refl (H : Hp) : Same H H := fun _ _ h => h
theorem Same.trans {H H1 H2 : Hp} (a : Same H H1) (b : Same H1 H2) : Same H H2 := fun c o h => b c o (a c o h)
end L2
set_option maxHeartbeats 4000000
namespace L2
open PySem PySem.Spec PyProof.Rows
section
variable {κ : Type} [DecidableEq κ]
noncomputable def valV (kvs : List (κ × V)) (k : κ) : Option V := (kvs.find? fun kv => decide (kv.1 = k)).map (·.2)
noncomputable def putK (kvs : List (κ × V)) (k : κ) (v : V) : List (κ × V) :=
 if (kvs.any fun kv => decide (kv.1 = k)) = true then kvs.map (fun kv => if kv.1 = k then (kv.1, v) else kv) else kvs ++ [(k, v)]
noncomputable def b8I (kvs : List (κ × V)) (k : κ) : List (κ × V) := kvs.filter fun kv => decide (kv.1 ≠ k)
theorem a7w {p : κ × V} {r : List (κ × V)} {k : κ} (e : p.1 = k) : valV (p :: r) k = some p.2 := by simp [valV, List.find?_cons, e]
theorem a7x {p : κ × V} {r : List (κ × V)} {k : κ} (e : ¬ p.1 = k) : valV (p :: r) k = valV r k := by simp [valV, List.find?_cons, e]
theorem b0s (k : κ) : ∀ kvs : List (κ × V), (kvs.any fun kv => decide (kv.1 = k)) = (valV kvs k).isSome
 | [] => rfl
 | p :: r => by
   rw [List.any_cons]
   by_cases e : p.1 = k
   ·simp only [a7w e, decide_eq_true e, Bool.true_or, Option.isSome_some]
   ·rw [a7x e, decide_eq_false e, Bool.false_or]; exact b0s k r
theorem a6p (kvs : List (κ × V)) (k : κ) (v : V) : (putK kvs k v).length ≤ kvs.length + 1 := by
 unfold putK
 split
 ·rw [List.length_map]; lia
 ·rw [List.length_append, List.length_cons, List.length_nil]; lia
theorem RelO.isSome_eq {o : Option V} {u : Option Value} (r : RelO o u) : o.isSome = u.isSome := by
 cases o with
 | none => cases u with
   | none => rfl
   | some _ => exact (show False from r).elim
 | some _ => cases u with
   | none => exact (show False from r).elim
   | some _ => rfl
theorem RelO.getD {o : Option V} {u : Option Value} {d : V} {d' : Value} (r : RelO o u) (rd : RelV d d') : RelV (o.getD d) (u.getD d') := by
 cases o with
 | none => cases u with
   | none => exact rd
   | some _ => exact (show False from r).elim
 | some _ => cases u with
   | none => exact (show False from r).elim
   | some _ => exact r
theorem KV.val {kvs : List (κ × V)} {vs : List (κ × Value)} (r : KV kvs vs) (k : κ) : RelO (valV kvs k) (valueAt vs k) := by
 unfold KV at r
 induction r with
 | nil => exact True.intro
 | @cons p q ps qs h t ih =>
   obtain ⟨h1, h2⟩ := h
   by_cases e : p.1 = k
   ·have e' : q.1 = k := h1.symm.trans e
    have b : valueAt (q :: qs) k = some q.2 := by simp [valueAt, List.find?_cons, e']
    rw [a7w e, b]; exact h2
   ·have e' : ¬ q.1 = k := fun z => e (h1.trans z)
    have b : valueAt (q :: qs) k = valueAt qs k := by simp [valueAt, List.find?_cons, e']
    rw [a7x e, b]; exact ih
theorem KV.any {kvs : List (κ × V)} {vs : List (κ × Value)} (r : KV kvs vs) (k : κ) : (kvs.any fun kv => decide (kv.1 = k)) = vs.any fun kv => decide (kv.1 = k) := by
 unfold KV at r
 induction r with
 | nil => rfl
 | cons h t ih => rw [List.any_cons, List.any_cons, ih, h.1]
theorem KV.repl {kvs : List (κ × V)} {vs : List (κ × Value)} (r : KV kvs vs) (k : κ) {y : V} {u : Value} (ry : RelV y u) :
  KV (kvs.map fun kv => if kv.1 = k then (kv.1, y) else kv) (vs.map fun kv => if kv.1 = k then (kv.1, u) else kv) := by
 unfold KV at r ⊢
 induction r with
 | nil => exact .nil
 | @cons p q ps qs h t ih =>
   rw [List.map_cons, List.map_cons]
   refine .cons ?_ ih
   obtain ⟨h1, h2⟩ := h
   by_cases e : p.1 = k
   ·rw [if_pos e, if_pos (h1.symm.trans e)]; exact ⟨h1, ry⟩
   ·rw [if_neg e, if_neg (fun z => e (h1.trans z))]; exact ⟨h1, h2⟩
theorem KV.put {kvs : List (κ × V)} {vs : List (κ × Value)} (r : KV kvs vs) (k : κ) {y : V} {u : Value} (ry : RelV y u) : KV (putK kvs k y) (stored vs k u) := by
 unfold putK stored
 rw [r.any k]
 by_cases e : (vs.any fun kv => decide (kv.1 = k)) = true
 ·rw [if_pos e, if_pos e]; exact r.repl k ry
 ·rw [if_neg e, if_neg e]; exact Paired.snoc r ⟨rfl, ry⟩
theorem KV.drop {kvs : List (κ × V)} {vs : List (κ × Value)} (r : KV kvs vs) (k : κ) : KV (b8I kvs k) (without vs k) := by
 unfold KV at r ⊢
 unfold b8I without
 induction r with
 | nil => exact .nil
 | @cons p q ps qs h t ih =>
   obtain ⟨h1, h2⟩ := h
   rw [List.filter_cons, List.filter_cons]
   by_cases e : p.1 = k
   ·have a : ¬ decide (p.1 ≠ k) = true := by simp [e]
    have b : ¬ decide (q.1 ≠ k) = true := by simp [h1.symm.trans e]
    rw [if_neg a, if_neg b]; exact ih
   ·have e' : ¬ q.1 = k := fun z => e (h1.trans z)
    have a : decide (p.1 ≠ k) = true := by simp [e]
    have b : decide (q.1 ≠ k) = true := by simp [e']
    rw [if_pos a, if_pos b]; exact .cons ⟨h1, h2⟩ ih
theorem KV.length {kvs : List (κ × V)} {vs : List (κ × Value)} (r : KV kvs vs) : kvs.length = vs.length := Paired.length r
end
theorem b6G {P : Program} {w : World} {k : Key} {u : Value} (r : RelV (kV k) u) : (a2i P w).is k u = true := by
 cases k with
 | inl i => obtain ⟨t, e⟩ := (show ∃ t, u = Value.int i t from r); subst e; exact a9Z P w i t
 | inr x => obtain ⟨t, e⟩ := (show ∃ t, u = Value.str x t from r); subst e; exact a9Y P w x t
theorem a8W {P : Program} {w : World} : ∀ {ks : List Key} {us : List Value}, Vals (ks.map kV) us → ItemsAre (a2i P w) ks us
 | [], _, r => by rw [List.map_nil] at r; cases r; exact .nil
 | k :: ks, _, r => by
   rw [List.map_cons] at r
   cases r with
   | cons h t => exact .cons (b6G h) (a8W t)
noncomputable abbrev KT (H : Hp) : List (List Key × V) → List (List Key × Addr × Value) → Prop := Paired fun p q => p.1 = q.1 ∧ H q.2.1 = some (.tup (p.1.map kV)) ∧ RelV p.2 q.2.2
theorem KT.val {H : Hp} {kvs : List (List Key × V)} {xs : List (List Key × Addr × Value)} (r : KT H kvs xs) (k : List Key) : RelO (valV kvs k) ((atKey xs k).map (·.2)) := by
 induction r with
 | nil => exact True.intro
 | @cons p q ps qs h t ih =>
   obtain ⟨h1, _, h2⟩ := h
   by_cases e : p.1 = k
   ·have e' : q.1 = k := h1.symm.trans e
    have b : atKey (q :: qs) k = some q.2 := by simp [atKey, List.find?_cons, e']
    rw [a7w e, b]; exact h2
   ·have e' : ¬ q.1 = k := fun z => e (h1.trans z)
    have b : atKey (q :: qs) k = atKey qs k := by simp [atKey, List.find?_cons, e']
    rw [a7x e, b]; exact ih
theorem KT.repl {H : Hp} {kvs : List (List Key × V)} {xs : List (List Key × Addr × Value)} (r : KT H kvs xs) (k : List Key) {y : V} {u : Value} (ry : RelV y u) :
  KT H (kvs.map fun kv => if kv.1 = k then (kv.1, y) else kv) (xs.map (putAt k u)) := by
 induction r with
 | nil => exact .nil
 | @cons p q ps qs h t ih =>
   rw [List.map_cons, List.map_cons]
   refine .cons ?_ ih
   obtain ⟨h1, h2, h3⟩ := h
   unfold putAt
   by_cases e : p.1 = k
   ·rw [if_pos e, if_pos (h1.symm.trans e)]; exact ⟨h1, h2, ry⟩
   ·rw [if_neg e, if_neg (fun z => e (h1.trans z))]; exact ⟨h1, h2, h3⟩
theorem KT.put {H : Hp} {kvs : List (List Key × V)} {xs : List (List Key × Addr × Value)} (r : KT H kvs xs) (k : List Key) {b : Addr} {y : V} {u : Value} (hb : H b = some (.tup (k.map kV))) (ry : RelV y u) :
  KT H (putK kvs k y) (storedH xs k b u) := by
 have e : (kvs.any fun kv => decide (kv.1 = k)) = (atKey xs k).isSome := by
  rw [b0s, (r.val k).isSome_eq, Option.isSome_map]
 unfold putK storedH
 rw [e]
 by_cases q : (atKey xs k).isSome = true
 ·rw [if_pos q, if_pos q]; exact r.repl k ry
 ·rw [if_neg q, if_neg q]; exact Paired.snoc r ⟨rfl, hb, ry⟩
theorem KT.keeps {H H' : Hp} {kvs : List (List Key × V)} {xs : List (List Key × Addr × Value)} (r : KT H kvs xs) (ht : ∀ b ys, H b = some (.tup ys) → H' b = some (.tup ys)) : KT H' kvs xs :=
 Paired.mapP r fun _ _ z => ⟨z.1, ht _ _ z.2.1, z.2.2⟩
section
variable {P : Program} {w : World} {H : Hp} {h : Heap} {a : Addr}
theorem b7H {u : HO} (ok : HOk P w H h) (e : Rd H a u) : a2J P w H h a u := e.ok ok
theorem b6U {kvs : List (Key × V)} (ok : HOk P w H h) (e : Rd H a (.dK kvs)) : kvs.length ≤ sizeLine ∧ (a == sysModules) = false ∧ ∃ vs, KV kvs vs ∧ h.DictOf (a2i P w) a vs :=
 show a2J P w H h a (.dK kvs) from b7H ok e
theorem b9J {kvs : List (Key × V)} (ok : HOk P w H h) (e : H a = some (.dK kvs)) : kvs.length ≤ sizeLine ∧ (a == sysModules) = false ∧ ∃ vs, KV kvs vs ∧ h.DictOf (a2i P w) a vs := b6U ok (.inl e)
theorem b2Z {ks : List Key} (ok : HOk P w H h) (e : H a = some (.tup (ks.map kV))) : (tupleKind (a2i P w)).is h ks a := by
 obtain ⟨_, its, r, o, h1, h2, _, n, h3⟩ := (show a2J P w H h a (.tup (ks.map kV)) from ok a _ e)
 exact ⟨o, its.toArray, n, h1, h2, h3, by simpa using a8W r⟩
theorem b6S {kvs : List (List Key × V)} (ok : HOk P w H h) (e : Rd H a (.dT kvs)) : kvs.length ≤ sizeLine ∧ (a == sysModules) = false ∧
  ∃ xs, KT H kvs xs ∧ h.DictOfH (tupleKind (a2i P w)) a xs := by
 obtain ⟨z, y, xs, r, o, es, ep, h1, h2, h3, h4, h5⟩ := (show a2J P w H h a (.dT kvs) from b7H ok e)
 refine ⟨z, y, xs, r, o, es, ep, h1, h2, h3, h4, fun x hx => ?_, h5⟩
 have all : ∀ {l : List (List Key × V)} {m : List (List Key × Addr × Value)}, KT H l m → ∀ x ∈ m, (tupleKind (a2i P w)).is h x.1 x.2.1 := by
  intro l m q
  induction q with
  | nil => intro x hx; exact nomatch hx
  | @cons p q ps qs hq t ih =>
    intro x hx
    rcases List.mem_cons.mp hx with e | hx
    ·subst e
     exact b2Z ok (by rw [← hq.1]; exact hq.2.1)
    ·exact ih x hx
 exact all r x hx
theorem b9I {kvs : List (List Key × V)} (ok : HOk P w H h) (e : H a = some (.dT kvs)) : kvs.length ≤ sizeLine ∧ (a == sysModules) = false ∧
  ∃ xs, KT H kvs xs ∧ h.DictOfH (tupleKind (a2i P w)) a xs := b6S ok (.inl e)
end
noncomputable def DGet (H : Hp) (a : Addr) (y : V) (r : Option V) : Prop :=
 (∃ kvs k, Rd H a (.dK kvs) ∧ y = kV k ∧ r = valV kvs k) ∨ ∃ kvs k b, Rd H a (.dT kvs) ∧ y = .ref b ∧ H b = some (.tup (k.map kV)) ∧ r = valV kvs k
noncomputable def DPut (H : Hp) (a : Addr) (y v : V) (H' : Hp) : Prop :=
 (∃ kvs k, H a = some (.dK kvs) ∧ y = kV k ∧ kvs.length < sizeLine ∧ H' = upd H a (.dK (putK kvs k v))) ∨
 ∃ kvs k b, H a = some (.dT kvs) ∧ y = .ref b ∧ H b = some (.tup (k.map kV)) ∧ kvs.length < sizeLine ∧ H' = upd H a (.dT (putK kvs k v))
theorem DGet.t {H : Hp} {a b : Addr} {kvs : List (List Key × V)} {k : List Key} (e : H a = some (.dT kvs)) (eb : H b = some (.tup (k.map kV))) : DGet H a (.ref b) (valV kvs k) := .inr ⟨kvs, k, b, .inl e, rfl, eb, rfl⟩
theorem DPut.t {H : Hp} {a b : Addr} {kvs : List (List Key × V)} {k : List Key} {v : V} (e : H a = some (.dT kvs)) (eb : H b = some (.tup (k.map kV))) (hl : kvs.length < sizeLine) :
  DPut H a (.ref b) v (upd H a (.dT (putK kvs k v))) := .inr ⟨kvs, k, b, e, rfl, eb, hl, rfl⟩
section
variable {X : Cx} {pins : List (Addr × Obj)} {σ : St} {H : Hp} {s : Shared} {a : Addr} {y v : V} {u r : Value} {o : Option V} {A : Around} {E : Value → Shared → Prop}
theorem Inv.big (I : Inv X pins σ H s) : sysModules < s.heap.objs.size := by
 have h : mainGlobals < s.heap.objs.size := (I.mod.glob.keeps I.bk).lt
 exact Nat.lt_trans (by decide) h
theorem b3B {Q : Value → Shared → Prop} (hu : A.units + 1 < cLine) (I : Inv X pins σ H s) (g : DGet H a y (some v)) (ry : RelV y u) (h : ∀ w' s', Inv X pins σ H s' → RelV v w' → Q w' s') :
  wpAny (model X.prog X.w) A (getItem (.ref a) u) Q E s := by
 rcases g with ⟨kvs, k, e, ey, l⟩ | ⟨kvs, k, b, e, ey, eb, l⟩
 ·subst ey
  obtain ⟨z, hd, vs, rel, dd⟩ := b6U I.hok e
  obtain ⟨w', hw, rw'⟩ := RelO.some_of (v := v) (o := valueAt vs k) (by rw [l]; exact rel.val k)
  exact wpAny_getItem_of (b6G ry) dd.mapOf hw (h w' _ (I.tok _) rw')
 ·subst ey
  cases (show u = Value.ref b from ry)
  obtain ⟨z, hd, xs, rel, dd⟩ := b6S I.hok e
  obtain ⟨w', hw, rw'⟩ := RelO.some_of (v := v) (o := (atKey xs k).map (·.2)) (by rw [l]; exact rel.val k)
  obtain ⟨p, hp, hp2⟩ := Option.map_eq_some_iff.mp hw
  refine wpAny_getItem_heap (tupleKind_room_in1 hu) (b2Z I.hok eb) dd hp ?_
  rw [hp2]
  exact h w' _ (I.tok _) rw'
theorem b3z {h' : Heap} {t' : Nat} {ob : HO} (I : Inv X pins σ H s) (mu : Mut (H a)) (hs : Heap.SameBut a s.heap h') (he : ∃ q, h'.get? a = some q) (new : a2J X.prog X.w (upd H a ob) h' a ob) :
  Inv X pins σ (upd H a ob) { s with heap := h', toks := t' } :=
 I.write (x := a) (e := a) mu (.inl rfl) (fun b q hb z => (hs.2 b hb).trans z) he new
theorem b8L {P : Program} {w : World} {H' : Hp} {h' : Heap} {kvs : List (Key × V)} {vs : List (Key × Value)} (z : kvs.length ≤ sizeLine) (hd : (a == sysModules) = false) (rel : KV kvs vs) (dd : h'.DictOf (a2i P w) a vs) :
  a2J P w H' h' a (.dK kvs) := ⟨z, hd, vs, rel, dd⟩
theorem b3A {H' : Hp} {Q : Unit → Shared → Prop} (hu : A.units + 1 < cLine) (I : Inv X pins σ H s) (g : DPut H a y v H') (ry : RelV y u) (rv : RelV v r) (h : ∀ s', Inv X pins σ H' s' → Q () s') :
  wpAny (model X.prog X.w) A (setItem (.ref a) u r) Q E s := by
 rcases g with ⟨kvs, k, e, ey, l, eH⟩ | ⟨kvs, k, b, e, ey, eb, l, eH⟩
 ·subst ey eH
  obtain ⟨z, hd, vs, rel, dd⟩ := b9J I.hok e
  have hz : vs.length ≤ sizeLine := by rw [← rel.length]; exact z
  have hl : (putK kvs k v).length ≤ sizeLine := by have := a6p kvs k v; lia
  refine wpAny_setItem_pairs (hsz := hz) (b6G ry) dd fun h' dd' hs => h _ ?_
  have he : ∃ q, h'.get? a = some q := let ⟨q, _, _, hq, _⟩ := dd'; ⟨q, hq⟩
  exact b3z I (by rw [e]; exact True.intro) hs he (b8L hl hd (rel.put k rv) dd')
 ·subst ey eH
  cases (show u = Value.ref b from ry)
  obtain ⟨z, hd, xs, rel, dd⟩ := b9I I.hok e
  have hz : xs.length ≤ sizeLine := by rw [← Paired.length rel]; exact z
  have hl : (putK kvs k v).length ≤ sizeLine := by have := a6p kvs k v; lia
  refine wpAny_setItem_heap (hsz := hz) (tupleKind_room_in1 hu) (b2Z I.hok eb) dd fun h' dd' hs => h _ ?_
  obtain ⟨q, es, ep, hq, h2, h3, h4, _, h5⟩ := dd'
  refine b3z I (by rw [e]; exact True.intro) hs ⟨q, hq⟩ ⟨hl, hd, _, (rel.put k eb rv).keeps fun c ys ec => ?_, q, es, ep, hq, h2, h3, h4, h5⟩
  rw [a0y (b9x ec e (fun z => nomatch z))]
  exact ec
end
section
variable {X : Cx} {pins : List (Addr × Obj)} {σ : St} {H : Hp} {s : Shared} {a : Addr} {kvs : List (Key × V)} {k : Key} {u : Value} {A : Around} {E : Value → Shared → Prop}
end
noncomputable def NoSl (i : Expr) : Prop := ∀ ov iv, subscripted i false ov iv = operate [ov, iv] (getItem ov iv)
theorem b5K {prog : Program} {w : World} {A : Around} {E : Value → Shared → Prop} {s : Shared} {env : Env} {value slice : Expr} {pos : Pos} {T id : String} {Q : Value → Shared → Prop}
  (hl : typeLookup (.type T) "__getitem__" = pure (some (.builtin id))) (hs : NoSl slice)
  (h : wpAny (model prog w) A (eval value env) (fun o s₁ => wpAny (model prog w) A (eval slice env) (fun i s₂ => s₂.TypeIs o T ∧ wpAny (model prog w) A (getItem o i) Q E s₂) E s₁) E s) :
  wpAny (model prog w) A (eval (.Subscript value slice pos) env) Q E s := by
 refine Subscript_ (wpAny_mono h (fun o s₁ h₁ => wpAny_mono h₁ (fun i s₂ h₂ => ?_) fun _ _ x => x) fun _ _ x => x)
 obtain ⟨hT, h₂⟩ := h₂
 unfold subscriptTail
 refine wpAny_bind ?_
 rw [getitemInPython_of_ne hT.not_modules]
 refine wpAny_bind (wpAny_specialOf hT hl ?_)
 have fin : wpAny (model prog w) A (subscripted slice false o i) (fun r s₃ => wpAny (model prog w) A (letTemporaryGo value o r >>= fun _ => pure r) Q E s₃) E s₂ := by
  rw [hs o i]
  exact wpAny_operating (wpAny_mono h₂ (fun r s₃ h₃ => wpAny_bind (wpAny_letTemporaryGo (wpAny_pure h₃))) fun _ _ x => x)
 first
  | exact wpAny_pure (wpAny_bind fin)
  | exact wpAny_bind (wpAny_pure (wpAny_bind fin))
  | exact wpAny_bind fin
theorem b0i {X : Cx} {pins : List (Addr × Obj)} {σ : St} {H : Hp} {s : Shared} {a : Addr} {y : V} {o : Option V} (I : Inv X pins σ H s) (g : DGet H a y o) : s.TypeIs (.ref a) "dict" := by
 rcases g with ⟨kvs, k, e, _, _⟩ | ⟨kvs, k, b, e, _, _, _⟩
 ·obtain ⟨_, _, vs, _, dd⟩ := b6U I.hok e
  exact dd.typeIs
 ·obtain ⟨_, _, xs, _, dd⟩ := b6S I.hok e
  exact dd.typeIs
noncomputable def b8V (td ty : TE) : TE := fun σ H Q => td σ H fun x H1 => ty σ H1 fun y H2 => ∃ a v, x = .ref a ∧ DGet H2 a y (some v) ∧ Q v H2
noncomputable def b9d (td ty tv : TE) : TS := fun D σ H => tv σ H fun v H1 => td σ H1 fun x H2 => ty σ H2 fun y H3 => ∃ a H4, x = .ref a ∧ DPut H3 a y v H4 ∧ D.nx σ H4
section
variable {X : Cx} {o i e value : Expr} {pos pos' tpos : Pos} {td ty tv : TE}
theorem b6u (hu : X.A.units + 1 < cLine) (ho : PE X o td) (hi : PE X i ty) (hs : NoSl i) : PE X (.Subscript o i pos) (b8V td ty) := by
 intro pins s σ H Q I h
 refine b5K PySem.F.slot_dict_getitem.lookup hs (thn (ho pins s σ H _ I h) fun u s1 ⟨x, H1, I1, rx, q1⟩ => thn (hi pins s1 σ H1 _ I1 q1) fun iv s2 ⟨y, H2, I2, ry, a, v, ex, g, q2⟩ => ?_)
 subst ex
 obtain rfl : u = Value.ref a := rx
 exact ⟨b0i I2 g, b3B hu I2 g ry fun w' s3 I3 rw' => ⟨v, H2, I3, rw', q2⟩⟩
theorem b6n (hu : X.A.units + 1 < cLine) (ho : PE X o td) (hi : PE X i ty) (hv : PE X value tv) (hs : swapsWith value (some (.Subscript o i pos')) pos.line X.env = pure false) :
  PS X (.Assign [.Subscript o i pos'] value pos) (b9d td ty tv) := by
 intro pins s σ H D I h
 refine wpAny_Assign_Subscript (thn (hv pins s σ H _ I h) fun r s1 ⟨v, H1, I1, rv, q1⟩ => thn (ho pins s1 σ H1 _ I1 q1) fun u s2 ⟨x, H2, I2, rx, q2⟩ => thn (hi pins s2 σ H2 _ I2 q2) fun iv s3 ⟨y, H3, I3, ry, a, H4, ex, g, q3⟩ => ?_) hs
 subst ex
 obtain rfl : u = Value.ref a := rx
 exact b3A hu I3 g ry rv fun s4 I4 => ⟨σ, H4, I4, q3⟩
end
theorem b4T {P : Program} {w : World} {H : Hp} (h : Heap) (hb : sysModules < h.objs.size) : a2J P w H (h.push { cls := .type "dict", data := .dict #[] }) h.objs.size (.dT []) :=
 ⟨Nat.zero_le _, beq_eq_false_iff_ne.mpr (Ne.symm (Nat.ne_of_lt hb)), [], .nil, _, #[], 0, Heap.get?_push_size _ rfl, ⟨rfl, rfl, rfl⟩, rfl, rfl, List.nodup_nil⟩
noncomputable def b7v : TE := fun _ H Q => ∀ p, H p = none → Q (.ref p) (upd H p (.dT []))
section
variable {X : Cx} {pos : Pos}
theorem b4q : PE X (.Dict [] [] pos) b7v := fun pins s σ H Q I h =>
 wpAny_Dict_empty ⟨.ref s.heap.objs.size, _, I.laid (a := s.heap.objs.size) (o := .dT []) (t' := s.toks) (fun _ _ q => Heap.get?_push_of_some _ q) (Nat.le_refl _) (b4T s.heap I.big), rfl, h _ (I.hok.fresh (Nat.le_refl _))⟩
end
structure M1 (X : Cx) (o : Expr) (m : Str) (apos : Pos) (e : Expr) (cpos : Pos) : Prop where
 base : attributeBase o m X.env (eval o X.env) = eval o X.env
 few : ((backTo cpos (starEach [e] X.env)).all (fun x => !x.1) && (backToKw cpos (keywordEach [] X.env)).all (fun x => x.1.isSome)
  && decide (([e] : List Expr).length + ([] : List Keyword).length + (if ([] : List Keyword).isEmpty then 0 else 1) < 30)) = true
 line : (apos.endLine == cpos.line) = true
 trees : backTo cpos (starEach [e] X.env) = [(false, eval e X.env)]
section
variable {X : Cx} {pins : List (Addr × Obj)} {σ : St} {H : Hp} {s : Shared} {a : Addr} {y d : V} {u r : Value} {o : Option V} {A : Around} {E : Value → Shared → Prop}
end
section
variable {X : Cx} {o e f : Expr} {apos cpos : Pos} {td ty tx : TE}
end
noncomputable def a4N (env : Env) : List (Str × NameKind) → List (Str × Addr) → List (Str × Addr)
 | [], acc => acc
 | (n, k) :: r, acc => a4N env r (if k == .free then (n, (env.cells.lookup n).getD 0) :: acc else acc)
theorem a3y (env : Env) (n : Str) (k : NameKind) (r : List (Str × NameKind)) (acc : List (Str × Addr)) : a4N env ((n, k) :: r) acc = a4N env r (if k == .free then (n, (env.cells.lookup n).getD 0) :: acc else acc) := rfl
theorem a3K (env : Env) (f : Str × NameKind → List (Str × Addr) → Sem (ForInStep (List (Str × Addr))))
  (hf : ∀ n k cs, f (n, k) cs = if (k == .free) = true then (do let a ← cellOf env n; pure (.yield ((n, a) :: cs))) else pure (.yield cs)) :
  ∀ (names : List (Str × NameKind)) (acc : List (Str × Addr)), (∀ y ∈ names, y.2 = .free → ∃ c, env.cells.lookup y.1 = some c) → forIn names acc f = (pure (a4N env names acc) : Sem _)
 | [], acc, _ => by rw [List.forIn_nil]; rfl
 | (n, k) :: r, acc, h => by
   rw [List.forIn_cons, hf]
   have hr : ∀ y ∈ r, y.2 = .free → ∃ c, env.cells.lookup y.1 = some c := fun y hy => h y (List.mem_cons_of_mem _ hy)
   by_cases hk : (k == NameKind.free) = true
   ·rw [if_pos hk]
    obtain ⟨c, hc⟩ := h (n, k) List.mem_cons_self (by simpa using hk)
    have hc' : env.cells.lookup n = some c := hc
    have e : cellOf env n = pure c := by unfold cellOf; rw [hc']
    rw [e]
    simp only [pure_bind]
    rw [a3K env f hf r _ hr]
    rw [a3y, if_pos hk, hc']
    rfl
   ·rw [if_neg hk]
    simp only [pure_bind]
    rw [a3K env f hf r _ hr]
    rw [a3y, if_neg hk]
theorem a8q (scope : Scope) (env : Env) (h : ∀ y ∈ scope.names, y.2 = .free → ∃ c, env.cells.lookup y.1 = some c) : closureFor scope env = pure (a4N env scope.names []) := by
 unfold closureFor
 dsimp only
 rw [a3K env _ (fun n k cs => by cases hk : (k == NameKind.free) <;> simp [hk] <;> rfl) scope.names [] h]
 rfl
theorem a3Y (env : Env) : ∀ (names : List (Str × NameKind)) (acc : List (Str × Addr)) (x : Str) (c : Addr), (a4N env names acc).lookup x = some c →
  (acc.lookup x = some c ∨ ((x, .free) ∈ names ∧ c = (env.cells.lookup x).getD 0))
 | [], acc, x, c, h => .inl h
 | (n, k) :: r, acc, x, c, h => by
   rw [a3y] at h
   rcases a3Y env r _ x c h with q | ⟨q1, q2⟩
   ·split at q
    ·rename_i hk
     have hk' : k = .free := by simpa using hk
     subst hk'
     rw [List.lookup_cons] at q
     split at q
     ·rename_i hx
      have : x = n := by simpa using hx
      subst this
      cases q
      exact .inr ⟨List.mem_cons_self, rfl⟩
     ·exact .inl q
    ·exact .inl q
   ·exact .inr ⟨List.mem_cons_of_mem _ q1, q2⟩
theorem a9l (env : Env) : ∀ (names : List (Str × NameKind)) (acc : List (Str × Addr)) (x : Str), (∃ c, acc.lookup x = some c) → ∃ c, (a4N env names acc).lookup x = some c
 | [], acc, x, h => h
 | (n, k) :: r, acc, x, h => by
   rw [a3y]
   refine a9l env r _ x ?_
   split
   ·rw [List.lookup_cons]
    split
    ·exact ⟨_, rfl⟩
    ·exact h
   ·exact h
theorem a6K (env : Env) : ∀ (names : List (Str × NameKind)) (acc : List (Str × Addr)) (x : Str), (x, NameKind.free) ∈ names → ∃ c, (a4N env names acc).lookup x = some c
 | [], acc, x, h => by simp at h
 | (n, k) :: r, acc, x, h => by
   rw [a3y]
   rcases List.mem_cons.mp h with e | h
   ·cases e
    refine a9l env r _ _ ?_
    rw [if_pos (by decide), List.lookup_cons]
    simp
   ·exact a6K env r _ x h
noncomputable def ownB (names : List (Str × NameKind)) (x : Str) : Bool := names.any fun y => y.1 == x && y.2 == .cell
theorem b0G {names : List (Str × NameKind)} {x : Str} : ownB names x = true ↔ (x, NameKind.cell) ∈ names := by
 unfold ownB
 rw [List.any_eq_true]
 constructor
 ·rintro ⟨⟨n, k⟩, h, e⟩
  simp only [Bool.and_eq_true, beq_iff_eq] at e
  obtain ⟨rfl, rfl⟩ := e
  exact h
 ·intro h
  exact ⟨_, h, by simp⟩
theorem a1a : ∀ (names : List (Str × NameKind)) (n : Nat) (acc : List (Str × Addr)), cellsFrom n names acc = cellsFrom n names [] ++ acc
 | [], _, _ => rfl
 | (x, k) :: r, n, acc => by
   unfold cellsFrom
   split
   ·rw [a1a r (n + 1) ((x, n) :: acc), a1a r (n + 1) [(x, n)], List.append_assoc]; rfl
   ·exact a1a r n acc
theorem a2C : ∀ (names : List (Str × NameKind)) (n : Nat) {x : Str} {c : Addr}, (x, c) ∈ cellsFrom n names [] → n ≤ c ∧ (x, NameKind.cell) ∈ names
 | [], _, _, _, h => nomatch h
 | (y, k) :: r, n, x, c, h => by
   unfold cellsFrom at h
   split at h
   ·rename_i hk
    have hk' : k = .cell := by simpa using hk
    subst hk'
    rw [a1a] at h
    rcases List.mem_append.mp h with h | h
    ·have := a2C r (n + 1) h
     exact ⟨by lia, List.mem_cons_of_mem _ this.2⟩
    ·cases List.mem_singleton.mp h
     exact ⟨Nat.le_refl _, List.mem_cons_self⟩
   ·have := a2C r n h
    exact ⟨this.1, List.mem_cons_of_mem _ this.2⟩
theorem a2W : ∀ (names : List (Str × NameKind)) (n : Nat) {x : Str}, (x, NameKind.cell) ∈ names → ((cellsFrom n names []).lookup x).isSome = true
 | [], _, _, h => nomatch h
 | (y, k) :: r, n, x, h => by
   unfold cellsFrom
   rcases List.mem_cons.mp h with e | h
   ·cases e
    rw [if_pos (by decide), a1a, List.lookup_append]
    cases hh : (cellsFrom (n + 1) r []).lookup y with
    | some c => rfl
    | none => simp
   ·have i0 := a2W r n h
    have i1 := a2W r (n + 1) h
    split
    ·rw [a1a, List.lookup_append]
     cases hh : (cellsFrom (n + 1) r []).lookup x with
     | some c => rfl
     | none => rw [hh] at i1; cases i1
    ·exact i0
theorem a3h : ∀ (names : List (Str × NameKind)) (n : Nat), (cellsFrom n names []).Pairwise fun x y => x.2 ≠ y.2
 | [], _ => List.Pairwise.nil
 | (y, k) :: r, n => by
   unfold cellsFrom
   split
   ·rw [a1a]
    refine List.pairwise_append.mpr ⟨a3h r (n + 1), List.pairwise_singleton _ _, fun a ha b hb => ?_⟩
    rw [List.mem_singleton.mp hb]
    have := (a2C r (n + 1) (x := a.1) (c := a.2) ha).1
    show a.2 ≠ n
    exact Nat.ne_of_gt (Nat.lt_of_succ_le this)
   ·exact a3h r n
theorem a5j {M : Model} {A : Around} {E : Value → Shared → Prop} {s : Shared} {scope : Scope} {globals : Addr} {closure : List (Str × Addr)} {qual : Str} {func : Option Addr} {code : Value} {around : Env} {builtins : Addr} {Q : Env → Shared → Prop}
  (hQ : ∀ h', h' = pushCells (s.heap.push { cls := .type "dict", data := .dict #[] }) scope.names → Q (newEnv scope s.heap.objs.size globals (cellsFrom (s.heap.objs.size + 1) scope.names [] ++ closure) qual func code (some around) builtins) { s with heap := h' }) :
  wpAny M A (newFunctionEnv scope globals closure [] qual func code (some around) builtins) Q E s := by
 simp only [newFunctionEnv, Option.isSome_some, if_true]
 refine wpAny_bind (wpAny_alloc ?_)
 refine wpAny_bind (wpAny_layCells _ (fun name kind cells => by cases hkc : kind == NameKind.cell <;> simp [hkc]) _ _ _ _ ?_)
 rw [a1a, show ({ s with heap := s.heap.push { cls := .type "dict", data := .dict #[] } } : Shared).heap.objs.size = s.heap.objs.size + 1 from Heap.size_push ..]
 refine wpAny_bind ?_
 rw [List.forIn_nil]
 exact wpAny_pure (wpAny_pure (hQ _ rfl))
section
variable {prog : Program} {w : World} {A : Around} {R : Result → Shared → Prop} {s : Shared}
theorem a4t {elt target iter : Expr} {ifs : List Expr} {scope : Scope} {pos : Pos} {it acc : Value} {env : Env} (I : Nat → Shared → Prop)
  (turn : ∀ n s, I n s → wpAny (model prog w) A (pyNext it) (fun r s₁ => match r with
   | none => R (.ok .next) s₁
   | some v => wpAny (model prog w) A (letOwnedTupleGo target it v) (fun _ s₁' => wpAny (model prog w) A (assign target env v) (fun _ s₂ =>
     wpAny (model prog w) A (forIn ifs true fun c r => if r = true then do let ok ← isTrue c env (eval c env); pure (ForInStep.yield ok) else pure (ForInStep.yield r)) (fun ok s₃ =>
      if ok = true then wpAny (model prog w) A (eval elt env) (fun x s₄ =>
       wpAny (model prog w) A (call (.builtin "list.append") [acc, x]) (fun _ s₅ => ∃ m, m < n ∧ I m s₅) (notedBy (model prog w) A env fun e s' => R (.error e) s') s₄) (notedBy (model prog w) A env fun e s' => R (.error e) s') s₃
      else ∃ m, m < n ∧ I m s₃) (notedBy (model prog w) A env fun e s' => R (.error e) s') s₂) (notedBy (model prog w) A env fun e s' => R (.error e) s') s₁') (notedBy (model prog w) A env fun e s' => R (.error e) s') s₁) (notedBy (model prog w) A env fun e s' => R (.error e) s') s)
  (n : Nat) (h : I n s) :
  codeAny (model prog w) A (.compLoop (.ListComp elt [⟨target, iter, ifs, 0⟩] scope pos) 0 it acc env) R s := by
 refine codeAny_loop rfl I (fun n s hI => ?_) n h
 show wpAny _ A ((compTurn (.ListComp elt [⟨target, iter, ifs, 0⟩] scope pos) 0 it acc env).onRaise (fun x => do noteFrame x env; theTreesLotGoes x)) _ _ s
 refine wpAny_noted ?_
 rw [compTurn_list]
 refine wpAny_bind (wpAny_standAt (wpAny_bind (wpAny_mono (turn n s hI) (fun r s₁ h₁ => ?_) fun _ _ h' => h')))
 cases r with
 | none => exact wpAny_pure h₁
 | some v =>
   refine wpAny_bind (wpAny_mono h₁ (fun _ s₁' h₁' => wpAny_bind (wpAny_mono h₁' (fun _ s₂ h₂ => wpAny_bind (wpAny_mono h₂ (fun ok s₃ h₃ => ?_) fun _ _ h' => h')) fun _ _ h' => h')) fun _ _ h' => h')
   cases ok with
   | false => exact wpAny_pure ⟨rfl, h₃⟩
   | true =>
     exact wpAny_bind (wpAny_bind (wpAny_mono h₃ (fun x s₄ h₄ => wpAny_bind (wpAny_mono h₄ (fun _ s₅ h₅ => wpAny_pure (wpAny_pure ⟨rfl, h₅⟩)) fun _ _ h' => h')) fun _ _ h' => h'))
end
noncomputable def blk (X : Cx) (N' : List Str) (scope : Scope) (C : Addr) (s : Shared) (H : Hp) (fp : List Addr) (pins : List (Addr × Obj)) : Cx where
 prog := X.prog
 w := X.w
 K := X.K
 mg := X.mg
 base := X.base
 A := X.A
 N := N'
 s₀ := s
 H₀ := H
 env := compEnvC scope (cellsFrom (C + 1) scope.names [] ++ a4N X.env scope.names []) C X.env
 outer := X.stack
 stack := X.stack
 ex := fp
 fn := ownB scope.names
 calm := X.calm
 pn := X.pn ++ pins
 xe := fun _ _ => False
structure BlkScope (X : Cx) (N' : List Str) (ix : List (Option Nat)) (scope : Scope) : Prop where
 kind : scope.kind = .function
 locs : ∀ y ∈ scope.names, y.2 = .local → scope.names.lookup y.1 = some .local
 frees : ∀ y ∈ scope.names, y.2 = .free → (X.env.kindOf y.1 = some .cell ∨ X.env.kindOf y.1 = some .free)
 look : ∀ x k, (relabel scope X.env).names.lookup x = some k → (k = .cell ∨ k = .free) → (x, NameKind.free) ∈ scope.names ∨ (x, NameKind.cell) ∈ scope.names
 lenI : ix.length = N'.length
 at_ : ∀ (i j : Nat) (x : Str), ix[i]? = some (some j) → N'[i]? = some x → X.N[j]? = some x ∧ (x, NameKind.free) ∈ scope.names ∧ ownB scope.names x = false ∧ (relabel scope X.env).names.lookup x = X.env.kindOf x
variable {X : Cx} {pins : List (Addr × Obj)} {σ : St} {H : Hp} {s : Shared} {N' : List Str} {ix : List (Option Nat)} {scope : Scope}
noncomputable def pick (ix : List (Option Nat)) (σ : St) : St := ix.map fun o => match o with | some j => (σ[j]?).join | none => none
theorem b0F {i : Nat} {v : V} (e : (pick ix σ)[i]? = some (some v)) : ∃ j, ix[i]? = some (some j) ∧ σ[j]? = some (some v) := by
 unfold pick at e
 rw [List.getElem?_map] at e
 cases h : ix[i]? with
 | none => rw [h] at e; cases e
 | some o =>
   rw [h] at e
   cases o with
   | none =>
     have e' : (none : Option V) = some v := Option.some.inj e
     cases e'
   | some j =>
     have e' : (σ[j]?).join = some v := Option.some.inj e
     refine ⟨j, rfl, ?_⟩
     cases hj : σ[j]? with
     | none => rw [hj] at e'; cases e'
     | some u => rw [hj] at e'; exact congrArg some e'
theorem a2D (I : Inv X pins σ H s) (S : BlkScope X N' ix scope) (C : Addr) {x : Str} {c : Addr} (e : (cellsFrom (C + 1) scope.names [] ++ a4N X.env scope.names []).lookup x = some c) :
  (C < c ∧ (cellsFrom (C + 1) scope.names []).lookup x = some c) ∨ (ownB scope.names x = false ∧ X.env.cells.lookup x = some c) := by
 rw [List.lookup_append] at e
 cases h : (cellsFrom (C + 1) scope.names []).lookup x with
 | some c' =>
   rw [h] at e
   cases e
   exact .inl ⟨(a2C _ _ (mem_of_lookup h)).1, rfl⟩
 | none =>
   rw [h] at e
   refine .inr ⟨Bool.eq_false_iff.mpr fun z => ?_, ?_⟩
   ·have := a2W scope.names (C + 1) (b0G.mp z)
    rw [h] at this; cases this
   ·have e' : (a4N X.env scope.names []).lookup x = some c := e
    rcases a3Y X.env scope.names [] x c e' with q | ⟨q, rfl⟩
    ·cases q
    ·obtain ⟨c, hc⟩ := I.ok.has x (S.frees _ q rfl)
     rw [hc] <;> rfl
theorem b8O {fp : List Addr} {C : Addr} (I : Inv X pins σ H s) (hf : ∀ b ∈ fp, FpOk X pins H b) (S : BlkScope X N' ix scope) (hC : s.heap.objs.size ≤ C) (hfo : ∀ b ∈ fp, ∃ o, s.heap.get? b = some o) :
  (blk X N' scope C s H fp pins).Ok := by
 have lt : ∀ x c, X.env.cells.lookup x = some c → c < C := fun x c e => by
  obtain ⟨v, z⟩ := I.cell x c e
  exact Nat.lt_of_lt_of_le z.lt hC
 refine ⟨I.ok.mod, ?_, I.ok.glob, I.ok.blt, hC, fun x y c h1 h2 => ?_, fun x hx => ?_, fun x c hf' e => ?_, I.ok.hd, I.ok.frames, .inl rfl, fun b hb => ?_, I.bs, Nat.le_trans I.ok.bsz I.sz, fun b o e hb => ?_, fun b hb hs => ?_, I.stack, I.stkFree⟩
 ·exact S.kind
 ·rcases a2D I S C h1 with ⟨a1, a2⟩ | ⟨a1, a2⟩ <;> rcases a2D I S C h2 with ⟨b1, b2⟩ | ⟨b1, b2⟩
  ·exact name_of_addr (a3h _ _) (mem_of_lookup a2) (mem_of_lookup b2)
  ·exact absurd (Nat.lt_trans (lt _ _ b2) a1) (Nat.lt_irrefl _)
  ·exact absurd (Nat.lt_trans (lt _ _ a2) b1) (Nat.lt_irrefl _)
  ·exact I.ok.inj x y c a2 b2
 ·have hx' : (relabel scope X.env).names.lookup x = some .cell ∨ (relabel scope X.env).names.lookup x = some .free := hx
  have key : (x, NameKind.free) ∈ scope.names ∨ (x, NameKind.cell) ∈ scope.names := by
   rcases hx' with hx' | hx'
   ·exact S.look x _ hx' (.inl rfl)
   ·exact S.look x _ hx' (.inr rfl)
  show ∃ c, (cellsFrom (C + 1) scope.names [] ++ a4N X.env scope.names []).lookup x = some c
  rw [List.lookup_append]
  cases h : (cellsFrom (C + 1) scope.names []).lookup x with
  | some c => exact ⟨c, rfl⟩
  | none =>
    rcases key with k | k
    ·obtain ⟨c, hc⟩ := a6K X.env scope.names [] x k
     exact ⟨c, by rw [hc]; rfl⟩
    ·have := a2W scope.names (C + 1) k
     rw [h] at this; cases this
 ·rcases a2D I S C e with ⟨a1, a2⟩ | ⟨a1, a2⟩
  ·exact Nat.le_of_lt (Nat.lt_of_le_of_lt hC a1)
  ·have hf2 : ownB scope.names x = true := hf'
   rw [a1] at hf2; cases hf2
 ·obtain ⟨f0, f1, f2, f3, f4, f5⟩ := hf b hb
  obtain ⟨o, ho⟩ := hfo b hb
  refine ⟨Nat.ne_of_lt (Nat.lt_of_lt_of_le (Heap.lt_size ho) hC), fun x c e => ?_⟩
  rcases a2D I S C e with ⟨a1, a2⟩ | ⟨a1, a2⟩
  ·exact Nat.ne_of_gt (Nat.lt_trans (Nat.lt_of_lt_of_le (Heap.lt_size ho) hC) a1)
  ·exact f4 x c a2
 ·obtain ⟨f0, f1, f2, f3, f4, f5⟩ := hf b hb
  have := (I.ok.bs b o e).1
  rcases f3 with z | z
  ·exact I.ok.noex b o e z
  ·exact absurd (Nat.lt_of_lt_of_le (Heap.lt_size this) z) (Nat.lt_irrefl _)
 ·obtain ⟨f0, f1, f2, f3, f4, f5⟩ := hf b hb
  rcases List.mem_cons.mp (I.stkSub b hs) with e | e
  ·exact f1 e
  ·exact f2 e
theorem b3M {fp : List Addr} {C : Addr} {h₁ : Heap} {tk : Nat} (I : Inv X pins σ H s) (hf : ∀ b ∈ fp, FpOk X pins H b) (S : BlkScope X N' ix scope) (hC : s.heap.objs.size ≤ C) (hfo : ∀ b ∈ fp, ∃ o, s.heap.get? b = some o)
  (hns : h₁.Ns C (fun _ => none)) (hk : ∀ b o, s.heap.get? b = some o → h₁.get? b = some o) (hown : ∀ x c, (x, c) ∈ cellsFrom (C + 1) scope.names [] → h₁.IsCell c none) :
  Inv (blk X N' scope C s H fp pins) [] (pick ix σ) H { s with heap := h₁, toks := tk } := by
 have nC : ∀ b o, s.heap.get? b = some o → b ≠ C := fun b o e => Nat.ne_of_lt (Nat.lt_of_lt_of_le (Heap.lt_size e) hC)
 refine ⟨b8O I hf S hC hfo, rfl, I.bare, Un.kept hk, ⟨_, hns, fun i x v h1 h2 h3 => ?_⟩, fun x c e => ?_, I.hok.fresh hC, fun x c e => ?_, fun p hp => ?_, I.hok.kept hk, ?_⟩
 ·obtain ⟨j, e1, e2⟩ := b0F h2
  obtain ⟨a1, a2, a4, a3⟩ := S.at_ i j x e1 h1
  have kd := S.frees _ a2 rfl
  have vis : Vis X.env.scope x := by
   rcases kd with k | k
   ·exact .inr (.inl k)
   ·exact .inr (.inr k)
  obtain ⟨m, hn, hl⟩ := I.loc
  obtain ⟨u, r, l⟩ := hl j x v a1 e2 vis
  refine ⟨u, r, .inr ?_⟩
  have kd' : X.env.kindOf x = some .cell ∨ X.env.kindOf x = some .free := kd
  rcases l with ⟨k, _⟩ | ⟨k, c, ec, z⟩
  ·rcases kd' with q | q <;> (rw [q] at k; cases k)
  ·refine ⟨?_, c, ?_, z.keeps hk⟩
   ·show (relabel scope X.env).names.lookup x = some .cell ∨ (relabel scope X.env).names.lookup x = some .free
    rw [a3]; exact kd'
   ·obtain ⟨c', hc'⟩ := a6K X.env scope.names [] x a2
    show (cellsFrom (C + 1) scope.names [] ++ a4N X.env scope.names []).lookup x = some c
    have hn : (cellsFrom (C + 1) scope.names []).lookup x = none := by
     cases h : (cellsFrom (C + 1) scope.names []).lookup x with
     | none => rfl
     | some c2 =>
       have := b0G.mpr (a2C _ _ (mem_of_lookup h)).2
       rw [a4] at this; cases this
    rw [List.lookup_append, hn]
    show (a4N X.env scope.names []).lookup x = some c
    rcases a3Y X.env scope.names [] x c' hc' with q | ⟨q, q2⟩
    ·cases q
    ·rw [hc', q2, ec]; rfl
 ·rcases a2D I S C e with ⟨a1, a2⟩ | ⟨a1, a2⟩
  ·exact ⟨none, hown x c (mem_of_lookup a2)⟩
  ·obtain ⟨v, z⟩ := I.cell x c a2
   exact ⟨v, z.keeps hk⟩
 ·rcases a2D I S C e with ⟨a1, a2⟩ | ⟨a1, a2⟩
  ·exact I.hok.fresh (Nat.le_of_lt (Nat.lt_of_le_of_lt hC a1))
  ·exact I.freeC x c a2
 ·have hp' : p ∈ X.pn ++ pins := by
   have : p ∈ (X.pn ++ pins) ++ [] := hp
   simpa using this
  obtain ⟨e, n, ne, nf, d⟩ := I.pin p hp'
  refine ⟨hk _ _ e, n, nC _ _ e, fun hb => ?_, d⟩
  rcases List.mem_cons.mp (I.stkSub _ hb) with z | z
  ·exact ne z
  ·exact nf z
 ·show (pick ix σ).length = N'.length
  unfold pick
  rw [List.length_map, S.lenI]
theorem b7b {fp : List Addr} {C D : Addr} {h' : Heap} {H' : Hp} {σ' : St} {s' : Shared} {ys : List V} {its : List Value} {cap : Nat} (I : Inv X pins σ H s) (hf : ∀ b ∈ fp, FpOk X pins H b) (hC : s.heap.objs.size ≤ C) (hD : s.heap.objs.size ≤ D) (hDC : D ≠ C)
  (J : Inv (blk X N' scope C s H fp pins) [] σ' H' s') (hDn : H' D = none) (ho : s'.heap.get? D = some { cls := .type "list", data := .seq its.toArray cap }) (r : Vals ys its) (hz : ys.length ≤ sizeLine) (sb : Heap.SameBut C s'.heap h') :
  Inv X pins σ (upd H' D (.lst ys)) { s' with heap := h' } := by
 have sb' : ∀ b o, b ≠ C → s'.heap.get? b = some o → h'.get? b = some o := sb.extBut
 have nC : ∀ b o, s.heap.get? b = some o → b ≠ C := fun b o e => Nat.ne_of_lt (Nat.lt_of_lt_of_le (Heap.lt_size e) hC)
 have nD : ∀ b o, s.heap.get? b = some o → b ≠ D := fun b o e => Nat.ne_of_lt (Nat.lt_of_lt_of_le (Heap.lt_size e) hD)
 have hCn : H' C = none := J.free
 have u := J.base
 refine I.call' (ch := fp) (s' := { s' with heap := h' }) J.os ⟨fun b o e n hb hx => ?_, fun b o e n hb hx => ?_, fun b o e n hx => ?_, fun b o e hx => ?_, fun b xs e => ?_, fun b o v e => ?_, fun b ps e => ?_⟩ (fun b o e => ?_) J.bare (fun b hb => ?_)
 ·exact sb' _ _ (nC b o e) (u.keep b o e n hb hx)
 ·obtain ⟨sl, q⟩ := u.slot b o e n hb hx
  exact ⟨sl, sb' _ _ (nC b o e) q⟩
 ·rw [a0y (nD b o e)]; exact u.free b o e n hx
 ·obtain ⟨o', q⟩ := u.there b o e hx
  exact ⟨o', sb' _ _ (nC b o e) q⟩
 ·have q := u.tups b xs e
  rw [a0y (a0r q hDn)]; exact q
 ·have q := u.frzs b o v e
  rw [a0y (a0r q hDn)]; exact q
 ·obtain ⟨m, q⟩ := u.tbls b ps e
  exact ⟨m, by rw [a0y (a0r q hDn)]; exact q⟩
 ·by_cases hb : b = D
  ·subst hb
   rw [a0O] at e; cases e
   exact ⟨hz, its, cap, r, sb' _ _ hDC ho⟩
  ·rw [a0y hb] at e
   refine (J.hok b o e).stay (fun c v hc q => sb' c v ?_ q) (fun c q => by rw [a0y (a0r q hDn)]; exact q) fun c xs q => by rw [a0y (a0r q hDn)]; exact q
   rcases hc with rfl | hc
   ·exact a0r e hCn
   ·exact a0r hc hCn
 ·obtain ⟨f0, f1, f2, f3, f4, f5⟩ := hf b hb
  exact ⟨f3, f1, f4, f5⟩
noncomputable def b3Z (wi : TI) (ix : List (Option Nat)) (g : TG) (tt : TT) (te : TE) : TE := fun σ H Q => wi σ H fun J H1 => ∃ W : Nat → Nat → List V → Hp → Prop, (∃ m, W 0 m [] H1) ∧ ∀ i m ys H, W i m ys H →
 (J.stop i H ∧ ys.length ≤ sizeLine ∧ ∀ p, H p = none → Q (.ref p) (upd H p (.lst ys))) ∨
 (J.go i H ∧ ys.length < sizeLine ∧ ∀ x H', J.yld i H x H' → g x (pick ix σ) H' fun σ2 H2 => tt σ2 H2 fun ok H3 =>
  if ok = true then te σ2 H3 fun y H4 => ∃ m', m' < m ∧ W (i + 1) m' (ys ++ [y]) H4 else ∃ m', m' < m ∧ W (i + 1) m' ys H3)
noncomputable def PTs (X : Cx) (ifs : List Expr) (t : TT) : Prop :=
 ∀ (pins : List (Addr × Obj)) (s : Shared) (σ : St) (H : Hp) (Q : Bool → Hp → Prop), Inv X pins σ H s → t σ H Q →
   wpAny (model X.prog X.w) X.A (forIn ifs true fun c r => if r = true then do let ok ← isTrue c X.env (eval c X.env); pure (ForInStep.yield ok) else pure (ForInStep.yield r)) (TP X pins σ Q) X.xe s
noncomputable def tYes : TT := fun _ H Q => Q true H
theorem b6h : PTs X [] tYes := fun _ _ _ H _ I h => wpAny_tests_nil ⟨H, I, h⟩
theorem b6g {c : Expr} {t : TT} (h : PT X c t) : PTs X [c] t := fun pins s σ H Q I hw => wpAny_tests_one (h pins s σ H Q I hw)
noncomputable def Agr (ix : List (Option Nat)) (σ σ2 : St) : Prop := σ2.length = σ.length ∧ ∀ (k j : Nat), ix[k]? = some (some j) → σ2[k]? = σ[k]?
noncomputable def Own (ix : List (Option Nat)) (g : TG) : Prop := ∀ (x : V) (σ0 σ : St) (H : Hp) (Q : St → Hp → Prop), Agr ix σ0 σ → g x σ H Q → g x σ H fun σ2 H2 => Q σ2 H2 ∧ Agr ix σ0 σ2
noncomputable def Owns (ix : List (Option Nat)) (g : TGs) : Prop := ∀ (x : List V) (σ0 σ : St) (H : Hp) (Q : St → Hp → Prop), Agr ix σ0 σ → g x σ H Q → g x σ H fun σ2 H2 => Q σ2 H2 ∧ Agr ix σ0 σ2
noncomputable def b8R (g : TG) : Prop := ∀ (x : V) (σ : St) (H : Hp) (Q Q' : St → Hp → Prop), (∀ σ H, Q σ H → Q' σ H) → g x σ H Q → g x σ H Q'
theorem a7R {ix : List (Option Nat)} {i : Nat} (h : ix[i]? = some none) : Own ix (a9c i) := by
 intro x σ0 σ H Q a q
 refine ⟨q, by rw [List.length_set]; exact a.1, fun k j hk => ?_⟩
 rw [List.getElem?_set_ne]
 ·exact a.2 k j hk
 ·rintro rfl
  rw [h] at hk; cases hk
theorem a7n {i : Nat} : b8R (a9c i) := fun x σ H Q Q' h q => h _ _ q
theorem b4t {ix : List (Option Nat)} : Owns ix gNil := by
 intro x σ0 σ H Q a q
 exact ⟨q.1, q.2, a⟩
theorem a8I {ix : List (Option Nat)} {t : TG} {u : TGs} (m : b8R t) (h1 : Own ix t) (h2 : Owns ix u) : Owns ix (b4O t u) := by
 intro x σ0 σ H Q a q
 obtain ⟨v, r, e, q⟩ := q
 exact ⟨v, r, e, m _ _ _ _ _ (fun σ1 H1 q1 => h2 _ σ0 _ _ _ q1.2 q1.1) (h1 _ σ0 _ _ _ a q)⟩
theorem b6y {ix : List (Option Nat)} {K : PySem.W.Frag} {n : Nat} {t : TGs} (h : Owns ix t) : Own ix (gTup K n t) := by
 intro x σ0 σ H Q a q
 obtain ⟨p, xs, e1, e2, e3, q⟩ := q
 exact ⟨p, xs, e1, e2, e3, h _ σ0 _ _ _ a q⟩
theorem a9k {elt iter tg : Expr} {ifs : List Expr} {pos posc : Pos} {wi : TI} {g : TG} {tt : TT} {te : TE} (use : Option (Value → Sem Unit)) (QQ : Value → Shared → Prop) (hc : X.calm = true) (hi : PI X tg iter wi) (S : BlkScope X N' ix scope) (ow : Own ix g)
  (hg : ∀ C s H fp pins, PG (blk X N' scope C s H fp pins) tg g) (ht : ∀ C s H fp pins, PTs (blk X N' scope C s H fp pins) ifs tt) (he : ∀ C s H fp pins, PE (blk X N' scope C s H fp pins) elt te)
  (hs : ∀ x, foldedSetIterable iter X.env x = pure x) (pins : List (Addr × Obj)) (s : Shared) (σ : St) (H : Hp) (Q : VK) (I : Inv X pins σ H s) (h : b3Z wi ix g tt te σ H Q)
  (hpost : ∀ (C D : Addr) (H5 : Hp) (s4 : Shared) (m : Str → Option Value), s4.heap.Ns C m → FpOk X pins H5 C → (∀ h', Heap.SameBut C s4.heap h' → Inv X pins σ H5 { s4 with heap := h' }) → Q (.ref D) H5 →
   compPost (model X.prog X.w) X.A X.xe use QQ (.ref D) C (.ok .next) s4) :
  wpAny (model X.prog X.w) X.A (comprehension (.ListComp elt [⟨tg, iter, ifs, 0⟩] scope pos) scope X.env posc (newList []) false (eval iter X.env) use) QQ X.xe s := by
 refine wpAny_comprehension_free (use := use) rfl hs (a8q scope X.env fun y hy hk => I.ok.has y.1 (S.frees y hy hk)) S.kind S.locs (thn (hi pins s σ H _ I h) fun v s1 h1 => thn h1 fun itv s2 h2 => ?_)
 obtain ⟨it, fp, tn, J, H2, e, I2, T, st2, f2, W, ⟨m0, w0⟩, turn⟩ := h2
 subst e
 have hfo : ∀ b ∈ fp, ∃ o, s2.heap.get? b = some o := fun b hb => let ⟨o, e, _⟩ := T.obj _ _ st2 b hb; ⟨o, e⟩
 refine wpAny_newObj_type (a5j (fun h₁ eh₁ => ?_))
 dsimp only at eh₁ ⊢
 generalize hH2 : s2.heap.push { cls := .type "list", dict := none, data := .seq ([] : List Value).toArray } = Hp2 at eh₁ ⊢
 have hC : Hp2.objs.size = s2.heap.objs.size + 1 := by rw [← hH2, Heap.size_push]
 have old1 : ∀ b o, Hp2.get? b = some o → h₁.get? b = some o := fun b o e => by rw [eh₁]; exact pushCells_keeps _ _ _ _ (Heap.get?_push_of_some _ e)
 have hns : h₁.Ns Hp2.objs.size (fun _ => none) := by rw [eh₁]; exact (Heap.Ns.new Hp2 (.type "dict")).keeps (pushCells_keeps _ _)
 have hown : ∀ x c, (x, c) ∈ cellsFrom (Hp2.objs.size + 1) scope.names [] → h₁.IsCell c none := fun x c hm => by
  have ok := cellsFrom_ok scope.names (Hp2.push { cls := .type "dict", data := .dict #[] }) (Hp2.objs.size + 1) [] ⟨fun _ _ hm => (nomatch hm), List.Pairwise.nil⟩ (by rw [Heap.size_push]; exact Nat.le_refl _)
  rw [Heap.size_push] at ok
  rw [eh₁]
  exact (ok.empty x c hm).1
 generalize hCC : Hp2.objs.size = C at hns hown hC ⊢
 generalize hDD : s2.heap.objs.size = D at hC
 have hCge : s2.heap.objs.size ≤ C := by rw [hDD, hC]; exact Nat.le_succ _
 have hDge : s2.heap.objs.size ≤ D := Nat.le_of_eq hDD
 have hDC : D ≠ C := by rw [hC]; exact Nat.ne_of_lt (Nat.lt_succ_self _)
 have hDlt : D < C := by rw [hC]; exact Nat.lt_succ_self _
 have old : ∀ b o, s2.heap.get? b = some o → h₁.get? b = some o := fun b o e => old1 b o (hH2 ▸ Heap.get?_push_of_some _ e)
 have hacc : h₁.get? D = some { cls := .type "list", data := .seq ([] : List Value).toArray 0 } := old1 _ _ (hH2 ▸ hDD ▸ Heap.get?_push_size _ rfl)
 have stat : ∀ {H' : Hp}, (∀ b ∈ fp, H' b = none) → ∀ b ∈ fp, FpOk (blk X N' scope C s2 H2 fp pins) [] H' b := fun hn b hb => by
  obtain ⟨f0, f1, f2, f3, f4, f5⟩ := f2 b hb
  obtain ⟨o, ho⟩ := hfo b hb
  refine ⟨hn b hb, Nat.ne_of_lt (Nat.lt_of_lt_of_le (Heap.lt_size ho) hCge), fun z => ?_, .inl hb, fun x c e => ?_, fun p hp => ?_⟩
  ·rcases List.mem_cons.mp (I2.stkSub _ z) with e | e
   ·exact f1 e
   ·exact f2 e
  ·rcases a2D I2 S C e with ⟨a1, a2⟩ | ⟨a1, a2⟩
   ·exact Nat.ne_of_gt (Nat.lt_trans (Nat.lt_of_lt_of_le (Heap.lt_size ho) hCge) a1)
   ·exact f4 x c a2
  ·have : p ∈ (X.pn ++ pins) ++ [] := hp
   exact f5 p (by simpa using this)
 have hDs : D ∉ (blk X N' scope C s2 H2 fp pins).fs := fun hb => by
  rcases List.mem_cons.mp (I2.stkSub _ hb) with e | e
  ·rw [e] at hDge
   exact absurd (Nat.lt_of_lt_of_le I2.lt hDge) (Nat.lt_irrefl _)
  ·exact I2.nofs hDge e
 have loop : ∀ s₃ : Shared, s₃ = { s2 with heap := h₁ } →
   codeAny (model X.prog X.w) X.A (.compLoop (.ListComp elt [⟨tg, iter, ifs, 0⟩] scope pos) 0 (.ref it) (.ref D) (compEnvC scope (cellsFrom (C + 1) scope.names [] ++ a4N X.env scope.names []) C X.env))
    (compPost (model X.prog X.w) X.A X.xe use QQ (.ref D) C) s₃ := by
  rintro s₃ rfl
  refine a4t (fun n s' => ∃ i ys its cap H', Inv (blk X N' scope C s2 H2 fp pins) [] (pick ix σ) H' s' ∧ tn i s'.heap ∧ (∀ b ∈ fp, H' b = none) ∧ H' D = none ∧
    s'.heap.get? D = some { cls := .type "list", data := .seq (its : List Value).toArray cap } ∧ Vals ys its ∧ W i n ys H') ?_ m0
   ⟨0, [], [], 0, H2, b3M I2 f2 S hCge hfo hns old hown, T.keep _ _ _ st2 fun b _ o e => old b o e, fun b hb => (f2 b hb).1, I2.hok.fresh hDge, hacc, .nil, w0⟩
  rintro n s3 ⟨i, ys, its, cap, H3, I3, st3, fr3, hD3, ho3, r3, w3⟩
  have I3d : Inv (blk X N' scope C s2 H2 fp pins) [(D, { cls := .type "list", data := .seq its.toArray cap })] (pick ix σ) H3 s3 := I3.pins_of fun p hp => by
   have e : p = (D, { cls := .type "list", data := .seq its.toArray cap }) := by simpa using hp
   subst e
   exact ⟨ho3, hD3, hDC, hDs, fun v z => nomatch z⟩
  have statD : ∀ {H' : Hp}, (∀ b ∈ fp, H' b = none) → ∀ b ∈ fp, FpOk (blk X N' scope C s2 H2 fp pins) [(D, ({ cls := .type "list", data := .seq its.toArray cap } : Obj))] H' b := fun hn b hb => by
   obtain ⟨f0, f1, f2, f3, f4, f5⟩ := stat hn b hb
   obtain ⟨o, ho⟩ := hfo b hb
   refine ⟨f0, f1, f2, f3, f4, fun p hp => ?_⟩
   rcases List.mem_append.mp hp with z | z
   ·exact f5 p (List.mem_append_left _ z)
   ·have e : p = (D, ({ cls := .type "list", data := .seq its.toArray cap } : Obj)) := by simpa using z
    subst e
    exact Nat.ne_of_gt (Nat.lt_of_lt_of_le (Heap.lt_size ho) hDge)
  rcases turn i n ys H3 w3 with ⟨stop, hz, qn⟩ | ⟨go, hz, step⟩
  ·refine wpAny_noRaise (thn (T.done (blk X N' scope C s2 H2 fp pins) rfl rfl rfl hc i _ s3 (pick ix σ) H3 (fun _ _ => False) I3d (statD fr3) st3 stop) fun r s4 ⟨hr, I4⟩ => ?_)
   subst hr
   obtain ⟨e4, n4, _⟩ := I4.pin (D, _) (List.mem_append_right _ (List.mem_singleton.mpr rfl))
   obtain ⟨m, hn, _⟩ := id I4.loc
   have hC4 : H3 C = none := I4.free
   exact hpost C D _ _ m hn (I2.fpOk hCge (by rw [a0y (Ne.symm hDC)]; exact hC4)) (fun h' sb => b7b I2 f2 hCge hDge hDC (Inv.unpinned (pl := [(D, _)]) (pins := []) I4) n4 e4 r3 hz sb) (qn D n4)
  ·refine wpAny_noRaise (thn (T.item (blk X N' scope C s2 H2 fp pins) rfl rfl rfl hc i _ s3 (pick ix σ) H3 (fun _ _ => False) I3d (statD fr3) st3 go) fun r s4 ⟨u, hr, h4⟩ => ?_)
   subst hr
   refine wpAny_noRaise (thn h4 fun _ s5 ⟨x, H5, I5, r5, y5, st5, fr5⟩ => ?_)
   have I5' := I5.pinned (statD fr5) (T.obj _ _ st5)
   have again : ∀ {σ7 : St} {H7 : Hp} {s7 : Shared}, Inv (blk X N' scope C s2 H2 fp pins) ([(D, ({ cls := .type "list", data := .seq its.toArray cap } : Obj))] ++ a7e fp s5.heap) σ7 H7 s7 →
     H7 D = none ∧ s7.heap.get? D = some { cls := .type "list", data := .seq its.toArray cap } ∧ tn (i + 1) s7.heap ∧ ∀ b ∈ fp, H7 b = none := fun {σ7 H7 s7} I7 => by
    obtain ⟨e7, n7, _⟩ := I7.pin (D, _) (List.mem_append_right _ (List.mem_append_left _ (List.mem_singleton.mpr rfl)))
    refine ⟨n7, e7, T.keep _ _ _ st5 fun b hb o e => (I7.pin (b, o) (List.mem_append_right _ (List.mem_append_right _ (a4n hb e)))).1, fun b hb => ?_⟩
    obtain ⟨o, e, d⟩ := T.obj _ _ st5 b hb
    exact (I7.pin (b, o) (List.mem_append_right _ (List.mem_append_right _ (a4n hb e)))).2.1
   have forget : ∀ {σ7 : St} {H7 : Hp} {s7 : Shared}, Inv (blk X N' scope C s2 H2 fp pins) ([(D, ({ cls := .type "list", data := .seq its.toArray cap } : Obj))] ++ a7e fp s5.heap) σ7 H7 s7 →
     (∀ (k : Nat) v, (pick ix σ)[k]? = some (some v) → σ7[k]? = some (some v)) → σ7.length = (pick ix σ).length → Inv (blk X N' scope C s2 H2 fp pins) [] (pick ix σ) H7 s7 := fun {σ7 H7 s7} I7 hk hl =>
    (I7.pins_of (pins' := []) fun _ z => nomatch z).weak hl.symm hk
   refine wpAny_noRaise (thn (hg C s2 H2 fp pins _ s5 (pick ix σ) H5 x u _ I5' r5 (ow _ _ _ _ _ ⟨rfl, fun _ _ _ => rfl⟩ (step x H5 y5))) fun _ s6 ⟨σ6, H6, I6, q6, l6, k6⟩ => ?_)
   have back : ∀ (k : Nat) v, (pick ix σ)[k]? = some (some v) → σ6[k]? = some (some v) := fun k v e => by
    obtain ⟨j, e1, _⟩ := b0F e
    rw [k6 k j e1]; exact e
   refine wpAny_noRaise (thn (ht C s2 H2 fp pins _ s6 σ6 H6 _ I6 q6) fun ok s7 ⟨H7, I7, q7⟩ => ?_)
   cases ok with
   | false =>
     rw [if_neg Bool.false_ne_true]
     rw [if_neg Bool.false_ne_true] at q7
     obtain ⟨m', hm, w7⟩ := q7
     obtain ⟨a1, a2, a3, a4⟩ := again I7
     exact ⟨m', hm, i + 1, ys, its, cap, H7, forget I7 back l6, a3, a4, a1, a2, r3, w7⟩
   | true =>
     rw [if_pos rfl]
     rw [if_pos rfl] at q7
     refine wpAny_noRaise (thn (he C s2 H2 fp pins _ s7 σ6 H7 _ I7 q7) fun z s8 ⟨y, H8, I8, r8, m', hm, w8⟩ => ?_)
     obtain ⟨a1, a2, a3, a4⟩ := again I8
     have hl := r3.length
     refine wpAny_noRaise (wpAny_list_append_plain ⟨_, a2⟩ (fun h9 ⟨cap9, p9⟩ sb9 => ?_) (by rw [List.size_toArray, ← hl]; exact Nat.le_of_lt hz))
     have I9 : Inv (blk X N' scope C s2 H2 fp pins) [] (pick ix σ) H8 { s8 with heap := h9 } :=
      (forget I8 back l6).turned (t' := s8.toks) (it := D) (fun b o hb e => sb9.extBut b o hb e) a1 hDC (.inr hDge) (fun x c e => by
       rcases a2D I2 S C e with ⟨a1, a2⟩ | ⟨a1, a2⟩
       ·exact Nat.ne_of_gt (Nat.lt_trans hDlt a1)
       ·obtain ⟨v, z⟩ := I2.cell x c a2
        exact Nat.ne_of_lt (Nat.lt_of_lt_of_le z.lt hDge)) (fun p hp => by
       have hp' : p ∈ (X.pn ++ pins) ++ [] := hp
       exact Nat.ne_of_lt (Nat.lt_of_lt_of_le (Heap.lt_size (I2.pin p (by simpa using hp')).1) hDge))
     refine ⟨m', hm, i + 1, ys ++ [y], its ++ [z], cap9, H8, I9, ?_, a4, a1, ?_, r3.append (.cons r8 .nil), w8⟩
     ·refine T.keep _ _ _ a3 fun b hb o e => sb9.extBut b o ?_ e
      obtain ⟨o', ho'⟩ := hfo b hb
      exact Nat.ne_of_lt (Nat.lt_of_lt_of_le (Heap.lt_size ho') hDge)
     ·rw [p9]; simp
 exact codeAny_compStart_list (loop _ rfl) (T.self _ _ _ _ _ (T.keep _ _ _ st2 fun b _ o e => old b o e) (loop _ rfl))
theorem b6v {elt iter tg : Expr} {ifs : List Expr} {pos : Pos} {wi : TI} {g : TG} {tt : TT} {te : TE} (hc : X.calm = true) (hi : PI X tg iter wi) (S : BlkScope X N' ix scope) (ow : Own ix g)
  (hg : ∀ C s H fp pins, PG (blk X N' scope C s H fp pins) tg g) (ht : ∀ C s H fp pins, PTs (blk X N' scope C s H fp pins) ifs tt) (he : ∀ C s H fp pins, PE (blk X N' scope C s H fp pins) elt te)
  (hs : ∀ x, foldedSetIterable iter X.env x = pure x := by intro _; rfl) :
  PE X (.ListComp elt [⟨tg, iter, ifs, 0⟩] scope pos) (b3Z wi ix g tt te) := by
 intro pins s σ H Q I h
 rw [eval_ListComp]
 exact a9k none (EP X pins σ Q) hc hi S ow hg ht he hs pins s σ H Q I h fun C D H5 s4 m hn _ inv q => ⟨m, hn, fun h' sb => ⟨.ref D, H5, inv h' sb, rfl, q⟩⟩
theorem b6l {i : Nat} {x : Str} {elt iter tg : Expr} {ifs : List Expr} {pos pos' spos : Pos} {wi : TI} {g : TG} {tt : TT} {te : TE} (hN : X.N.Nodup) (hi' : X.N[i]? = some x) (hx : Loc X.env.scope x) (hc : X.calm = true) (hi : PI X tg iter wi) (S : BlkScope X N' ix scope) (ow : Own ix g)
  (hg : ∀ C s H fp pins, PG (blk X N' scope C s H fp pins) tg g) (ht : ∀ C s H fp pins, PTs (blk X N' scope C s H fp pins) ifs tt) (he : ∀ C s H fp pins, PE (blk X N' scope C s H fp pins) elt te)
  (hsw : swapsWith (.ListComp elt [⟨tg, iter, ifs, 0⟩] scope pos) (some (.Name x pos')) spos.line X.env = pure true)
  (hs : ∀ x, foldedSetIterable iter X.env x = pure x := by intro _; rfl) (hf : X.fn x = true ∨ X.env.scope.names.lookup x = some .local := by first | exact .inl rfl | exact .inr rfl | assumption) :
  PS X (.Assign [.Name x pos'] (.ListComp elt [⟨tg, iter, ifs, 0⟩] scope pos) spos) (tAsg (b3Z wi ix g tt te) (a9c i)) := by
 intro pins s σ H D I h
 rw [exec_Assign_Name_used _ _ _ _ hsw]
 refine wpAny_bind (wpAny_standAt (wpAny_bind ?_))
 show wpAny _ X.A (do let _ ← comprehension (.ListComp elt [⟨tg, iter, ifs, 0⟩] scope pos) scope X.env _ (newList []) false (eval iter X.env) (some (assign (.Name x pos') X.env))) _ _ s
 refine wpAny_bind (thn (a9k (some (assign (.Name x pos') X.env)) (fun _ s' => SP X pins D .next s') hc hi S ow hg ht he hs pins s σ H _ I h ?_) fun _ s' hq => wpAny_pure (wpAny_pure hq))
 intro C D2 H5 s4 m hn fp inv q
 have I5 : Inv X pins σ H5 s4 := inv s4.heap (Heap.SameBut.refl _ _)
 refine wpAny_assign_Name (a8A I5 hN hi' hx (v := .ref D2) rfl (fun s5 I6 ⟨a, sb, ha⟩ => ?_) hf)
 obtain ⟨f0, f1, f2, f3, f4, f5⟩ := fp
 have hac : a ≠ C := by
  rcases ha with rfl | ha
  ·exact Ne.symm f1
  ·exact f4 x a ha
 refine ⟨m, hn.sameBut sb (Ne.symm hac), fun h' sb' => ⟨_, H5, I6.turned (t' := s5.toks) (it := C) (fun b o hb e => sb'.extBut b o hb e) f0 f1 f3 f4 f5, q⟩⟩
noncomputable def a7K (scope outer : Scope) : Scope :=
 { scope with names := scope.names.map fun (n, k) => if (k == .free && outer.kind == .function && outer.names.lookup n == some .cell) then (n, .cell) else (n, k) }
theorem a8H {scope : Scope} {env : Env} {x : Str} {k : NameKind} (h : (relabel scope env).names.lookup x = some k) (hk : k = .cell ∨ k = .free) : (x, NameKind.free) ∈ scope.names ∨ (x, NameKind.cell) ∈ scope.names := by
 have hm : (x, k) ∈ (relabel scope env).names := PySem.mem_of_lookup h
 unfold relabel at hm
 obtain ⟨⟨n, k0⟩, h1, h2⟩ := List.mem_map.mp hm
 dsimp only at h2
 split at h2
 ·rename_i hc
  have e1 : n = x := (Prod.mk.inj h2).1
  subst e1
  have : k0 = NameKind.free := by
   simp only [Bool.and_eq_true, beq_iff_eq] at hc
   exact hc.1.1
  rw [this] at h1; exact .inl h1
 ·have e1 := Prod.mk.inj h2
  obtain ⟨rfl, rfl⟩ := e1
  rcases hk with rfl | rfl
  ·exact .inr h1
  ·exact .inl h1
noncomputable def blkB (outer : Scope) (N N' : List Str) (ix : List (Option Nat)) (scope : Scope) : Bool :=
 decide (scope.kind = .function) && decide (outer.kind = .function) && scope.names.all (fun y => decide (y.2 = .local → scope.names.lookup y.1 = some .local)) &&
 scope.names.all (fun y => decide (y.2 = .free → (outer.names.lookup y.1 = some .cell ∨ outer.names.lookup y.1 = some .free))) && decide (ix.length = N'.length) &&
 (List.range ix.length).all fun i => match ix[i]?, N'[i]? with
  | some (some j), some x => decide (N[j]? = some x) && decide ((x, NameKind.free) ∈ scope.names) && !ownB scope.names x &&
    decide ((a7K scope outer).names.lookup x = outer.names.lookup x)
  | _, _ => true
theorem a0F {X : Cx} {outer scope : Scope} {N N' : List Str} {ix : List (Option Nat)} (h : blkB outer N N' ix scope = true) (ho : X.env.scope = outer) (hN : X.N = N) : BlkScope X N' ix scope := by
 unfold blkB at h
 simp only [Bool.and_eq_true, decide_eq_true_eq, List.all_eq_true] at h
 obtain ⟨⟨⟨⟨⟨h1, h2⟩, h4⟩, h5⟩, h6⟩, h7⟩ := h
 subst ho hN
 refine ⟨h1, h4, h5, fun x k hl hk => a8H hl hk, h6, fun i j x e1 e2 => ?_⟩
 have hi : i < ix.length := (List.getElem?_eq_some_iff.mp e1).1
 have q := h7 i (List.mem_range.mpr hi)
 rw [e1, e2] at q
 simp only [Bool.and_eq_true, decide_eq_true_eq, Bool.not_eq_true'] at q
 exact ⟨q.1.1.1, q.1.1.2, q.1.2, q.2⟩
theorem a7v {X : Cx} {outer scope0 scope : Scope} {N N' N0 : List Str} {ix : List (Option Nat)} {C : Addr} {s : Shared} {H : Hp} {fp : List Addr} {pins : List (Addr × Obj)} (h : blkB (a7K scope0 outer) N N' ix scope = true) (ho : X.env.scope = outer) (hN : N0 = N) : BlkScope (blk X N0 scope0 C s H fp pins) N' ix scope :=
 a0F (outer := a7K scope0 outer) h (by rw [← ho]; rfl) hN
theorem PE.imp {X : Cx} {e : Expr} {t t' : TE} (h : PE X e t) (f : ∀ σ H Q, t' σ H Q → t σ H Q) : PE X e t' := fun pins s σ H Q I q => h pins s σ H Q I (f σ H Q q)
theorem PT.imp {X : Cx} {e : Expr} {t t' : TT} (h : PT X e t) (f : ∀ σ H Q, t' σ H Q → t σ H Q) : PT X e t' := fun pins s σ H Q I q => h pins s σ H Q I (f σ H Q q)
theorem PA.imp {X : Cx} {e : List Expr} {t t' : TA} (h : PA X e t) (f : ∀ σ H Q, t' σ H Q → t σ H Q) : PA X e t' := fun pos pins s σ H Q I q => h pos pins s σ H Q I (f σ H Q q)
theorem PS.imp {X : Cx} {e : Stmt} {t t' : TS} (h : PS X e t) (f : ∀ D σ H, t' D σ H → t D σ H) : PS X e t' := fun pins s σ H D I q => h pins s σ H D I (f D σ H q)
theorem PSs.imp {X : Cx} {e : List Stmt} {t t' : TS} (h : PSs X e t) (f : ∀ D σ H, t' D σ H → t D σ H) : PSs X e t' := fun pins s σ H D I q => h pins s σ H D I (f D σ H q)
inductive T where
 | non | bl (b : Bool) | int (i : Int) | str (x : Str) | tup (ts : List T) | adr (a : Addr)
 /-- a list that never changes (the script; a module's own) -/
 | rd (ts : List T)
 /-- a dict with int keys that never changes behind its display -/
 | dic (ks : List Int) (ts : List T)
noncomputable def FzL (K : PySem.W.Frag) (H : Hp) (a : Addr) (xs : List V) : Prop :=
 (∃ o, H a = some (.frz o (.lst xs))) ∨
  ∃ (o : Obj) (its : Array Value) (n : Nat), K.lookup a = some o ∧ o.cls = .type "list" ∧ o.dict = none ∧ o.data = .seq its n ∧ its.size ≤ sizeLine ∧ Vals xs its.toList
theorem FzL.sq {K : PySem.W.Frag} {H : Hp} {a : Addr} {xs : List V} (h : FzL K H a xs) : SqL K H a xs := by
 rcases h with ⟨o, h⟩ | h
 ·exact .inl (.inr ⟨o, h⟩)
 ·exact .inr h
mutual
noncomputable def Rep (K : PySem.W.Frag) (H : Hp) : V → T → Prop
 | v, .non => v = .non
 | v, .bl b => v = .bl b
 | v, .int i => v = .int i
 | v, .str x => v = .str x
 | v, .adr a => v = .ref a
 | v, .tup ts => ∃ a xs, v = .ref a ∧ SqT K H a xs ∧ Reps K H xs ts
 | v, .rd ts => ∃ a xs, v = .ref a ∧ FzL K H a xs ∧ Reps K H xs ts
 | v, .dic _ _ => False
noncomputable def Reps (K : PySem.W.Frag) (H : Hp) : List V → List T → Prop
 | vs, [] => vs = []
 | vs, t :: ts => ∃ v r, vs = v :: r ∧ Rep K H v t ∧ Reps K H r ts
end
structure Kp (K : PySem.W.Frag) (H H' : Hp) : Prop where
 tup : ∀ a xs, SqT K H a xs → SqT K H' a xs
 frz : ∀ a o u, H a = some (.frz o u) → H' a = some (.frz o u)
theorem Kp.refl {K : PySem.W.Frag} {H : Hp} : Kp K H H := ⟨fun _ _ h => h, fun _ _ _ h => h⟩
theorem Kp.trans {K : PySem.W.Frag} {H H1 H2 : Hp} (a : Kp K H H1) (b : Kp K H1 H2) : Kp K H H2 := ⟨fun _ _ h => b.tup _ _ (a.tup _ _ h), fun _ _ _ h => b.frz _ _ _ (a.frz _ _ _ h)⟩
structure KpW (K : PySem.W.Frag) (H H' : Hp) : Prop where
 tup : ∀ a xs, SqT K H a xs → SqT K H' a xs
 frz : ∀ a o u, H a = some (.frz o u) → H' a = some (.frz o u)
theorem Kp.w {K : PySem.W.Frag} {H H' : Hp} (k : Kp K H H') : KpW K H H' := ⟨k.tup, k.frz⟩
theorem KpW.fz {K : PySem.W.Frag} {H H' : Hp} {a : Addr} {xs : List V} (k : KpW K H H') (h : FzL K H a xs) : FzL K H' a xs := by
 rcases h with ⟨o, h⟩ | h
 ·exact .inl ⟨o, k.frz _ _ _ h⟩
 ·exact .inr h
mutual
theorem Rep.kw {K : PySem.W.Frag} {H H' : Hp} (k : KpW K H H') : ∀ (v : V) (t : T), Rep K H v t → Rep K H' v t
 | v, .non, h => h
 | v, .bl b, h => h
 | v, .int i, h => h
 | v, .str x, h => h
 | v, .adr a, h => h
 | v, .tup ts, h => by
   unfold Rep at h ⊢
   obtain ⟨a, xs, e, h1, h2⟩ := h
   exact ⟨a, xs, e, k.tup _ _ h1, Reps.kw k xs ts h2⟩
 | v, .rd ts, h => by
   unfold Rep at h ⊢
   obtain ⟨a, xs, e, h1, h2⟩ := h
   exact ⟨a, xs, e, k.fz h1, Reps.kw k xs ts h2⟩
 | v, .dic ks ts, h => by
   unfold Rep at h; exact h.elim
theorem Reps.kw {K : PySem.W.Frag} {H H' : Hp} (k : KpW K H H') : ∀ (vs : List V) (ts : List T), Reps K H vs ts → Reps K H' vs ts
 | vs, [], h => h
 | vs, t :: ts, h => by
   unfold Reps at h ⊢
   obtain ⟨v, r, e, h1, h2⟩ := h
   exact ⟨v, r, e, Rep.kw k v t h1, Reps.kw k r ts h2⟩
end
theorem Rep.kp {K : PySem.W.Frag} {H H' : Hp} (k : Kp K H H') (v : V) (t : T) (h : Rep K H v t) : Rep K H' v t := Rep.kw k.w v t h
theorem Reps.kp {K : PySem.W.Frag} {H H' : Hp} (k : Kp K H H') (vs : List V) (ts : List T) (h : Reps K H vs ts) : Reps K H' vs ts := Reps.kw k.w vs ts h
section
variable {K : PySem.W.Frag} {H : Hp}
theorem Reps.cons {v : V} {t : T} {vs : List V} {ts : List T} (h : Rep K H v t) (r : Reps K H vs ts) : Reps K H (v :: vs) (t :: ts) := by
 unfold Reps; exact ⟨v, vs, rfl, h, r⟩
theorem Reps.nil : Reps K H [] [] := by unfold Reps; rfl
theorem Reps.length : ∀ {vs : List V} {ts : List T}, Reps K H vs ts → vs.length = ts.length
 | vs, [], h => by unfold Reps at h; subst h; rfl
 | vs, t :: ts, h => by
   unfold Reps at h
   obtain ⟨v, r, rfl, _, h2⟩ := h
   rw [List.length_cons, List.length_cons, Reps.length h2]
theorem Reps.get : ∀ {vs : List V} {ts : List T} {i : Nat} {t : T}, Reps K H vs ts → ts[i]? = some t → ∃ v, vs[i]? = some v ∧ Rep K H v t
 | _, [], _, _, _, e => by simp at e
 | vs, t :: ts, 0, u, h, e => by
   unfold Reps at h
   obtain ⟨v, r, rfl, h1, _⟩ := h
   simp at e; subst e
   exact ⟨v, rfl, h1⟩
 | vs, t :: ts, i + 1, u, h, e => by
   unfold Reps at h
   obtain ⟨v, r, rfl, _, h2⟩ := h
   obtain ⟨w, q1, q2⟩ := Reps.get (i := i) h2 (by simpa using e)
   exact ⟨w, by simpa using q1, q2⟩
theorem Reps.append : ∀ {vs : List V} {ts : List T} {ws : List V} {us : List T}, Reps K H vs ts → Reps K H ws us → Reps K H (vs ++ ws) (ts ++ us)
 | vs, [], _, _, h, g => by unfold Reps at h; subst h; exact g
 | vs, t :: ts, _, _, h, g => by
   unfold Reps at h
   obtain ⟨v, r, rfl, h1, h2⟩ := h
   exact .cons h1 (Reps.append h2 g)
theorem Reps.take : ∀ {vs : List V} {ts : List T} (n : Nat), Reps K H vs ts → Reps K H (vs.take n) (ts.take n)
 | _, _, 0, _ => .nil
 | vs, [], n + 1, h => by unfold Reps at h; subst h; exact .nil
 | vs, t :: ts, n + 1, h => by
   unfold Reps at h
   obtain ⟨v, r, rfl, h1, h2⟩ := h
   exact .cons h1 (Reps.take n h2)
theorem Reps.drop : ∀ {vs : List V} {ts : List T} (n : Nat), Reps K H vs ts → Reps K H (vs.drop n) (ts.drop n)
 | _, _, 0, h => h
 | vs, [], n + 1, h => by unfold Reps at h; subst h; exact .nil
 | vs, t :: ts, n + 1, h => by
   unfold Reps at h
   obtain ⟨v, r, rfl, h1, h2⟩ := h
   exact Reps.drop n h2
theorem Reps.set {v : V} {t : T} (g : Rep K H v t) : ∀ {vs : List V} {ts : List T} (n : Nat), Reps K H vs ts → Reps K H (vs.set n v) (ts.set n t)
 | vs, [], n, h => by unfold Reps at h; subst h; exact .nil
 | vs, u :: ts, 0, h => by
   unfold Reps at h
   obtain ⟨v, r, rfl, h1, h2⟩ := h
   exact .cons g h2
 | vs, u :: ts, n + 1, h => by
   unfold Reps at h
   obtain ⟨v, r, rfl, h1, h2⟩ := h
   exact .cons h1 (Reps.set g n h2)
theorem Reps.reverse : ∀ {vs : List V} {ts : List T}, Reps K H vs ts → Reps K H vs.reverse ts.reverse
 | vs, [], h => by unfold Reps at h; subst h; exact .nil
 | vs, u :: ts, h => by
   unfold Reps at h
   obtain ⟨v, r, rfl, h1, h2⟩ := h
   rw [List.reverse_cons, List.reverse_cons]
   exact (Reps.reverse h2).append (.cons h1 .nil)
theorem Reps.ints : ∀ {vs : List V} {ns : List Int}, Reps K H vs (ns.map T.int) → vs = ns.map V.int
 | vs, [], h => by unfold Reps at h; exact h
 | vs, n :: ns, h => by
   have h' : Reps K H vs (T.int n :: ns.map T.int) := h
   unfold Reps at h'
   obtain ⟨v, r, rfl, h1, h2⟩ := h'
   unfold Rep at h1
   subst h1
   rw [List.map_cons, Reps.ints h2]
theorem Reps.of_ints : ∀ (ns : List Int), Reps K H (ns.map V.int) (ns.map T.int)
 | [] => .nil
 | n :: ns => .cons (by unfold Rep; rfl) (Reps.of_ints ns)
end
inductive MO where
 /-- a list that may be written -/
 | lst (ts : List T)
 /-- a dict that may be written: keys whole numbers or texts -/
 | dk (kvs : List (Key × T))
 /-- the same, keys tuples of such -/
 | dt (kvs : List (List Key × T))
 /-- the same, walked: it may not be written any more -/
 | fz (kvs : List (List Key × T))
 /-- a dict with keys whole numbers or texts that may not be written any more (a walk may go over it) -/
 | fk (kvs : List (Key × T))
noncomputable abbrev MH := Addr → Option MO
noncomputable def updM (M : MH) (a : Addr) (o : MO) : MH := fun b => if b = a then some o else M b
theorem a0d {M : MH} {a : Addr} {o : MO} : updM M a o a = some o := if_pos rfl
theorem a0k {M : MH} {a b : Addr} {o : MO} (h : b ≠ a) : updM M a o b = M b := if_neg h
noncomputable def Sub (M M' : MH) : Prop := ∀ a o, M a = some o → M' a = some o
theorem Sub.refl {M : MH} : Sub M M := fun _ _ h => h
theorem Sub.trans {M M1 M2 : MH} (a : Sub M M1) (b : Sub M1 M2) : Sub M M2 := fun _ _ h => b _ _ (a _ _ h)
theorem Sub.new {M : MH} {p : Addr} {o : MO} (h : M p = none) : Sub M (updM M p o) := fun b u q => by
 rw [a0k]
 ·exact q
 ·rintro rfl
  rw [h] at q; cases q
noncomputable def KRep {κ : Type} (K : PySem.W.Frag) (H : Hp) : List (κ × V) → List (κ × T) → Prop
 | [], [] => True
 | p :: r, q :: u => p.1 = q.1 ∧ Rep K H p.2 q.2 ∧ KRep K H r u
 | _, _ => False
theorem KRep.kp {κ : Type} {K : PySem.W.Frag} {H H' : Hp} (k : Kp K H H') : ∀ {xs : List (κ × V)} {kvs : List (κ × T)}, KRep K H xs kvs → KRep K H' xs kvs
 | [], [], _ => trivial
 | p :: r, q :: u, h => ⟨h.1, Rep.kp k _ _ h.2.1, KRep.kp k h.2.2⟩
 | [], q :: u, h => h.elim
 | p :: r, [], h => h.elim
theorem KRep.length {κ : Type} {K : PySem.W.Frag} {H : Hp} : ∀ {xs : List (κ × V)} {kvs : List (κ × T)}, KRep K H xs kvs → xs.length = kvs.length
 | [], [], _ => rfl
 | p :: r, q :: u, h => by rw [List.length_cons, List.length_cons, KRep.length h.2.2]
 | [], q :: u, h => h.elim
 | p :: r, [], h => h.elim
noncomputable def MOk (K : PySem.W.Frag) (H : Hp) (a : Addr) : MO → Prop
 | .lst ts => ∃ xs, H a = some (.lst xs) ∧ Reps K H xs ts
 | .dk kvs => ∃ xs, H a = some (.dK xs) ∧ KRep K H xs kvs
 | .dt kvs => ∃ xs, H a = some (.dT xs) ∧ KRep K H xs kvs
 | .fz kvs => ∃ o xs, H a = some (.frz o (.dT xs)) ∧ KRep K H xs kvs
 | .fk kvs => ∃ xs, Rd H a (.dK xs) ∧ KRep K H xs kvs
noncomputable def HR (K : PySem.W.Frag) (H : Hp) (M : MH) : Prop := ∀ a o, M a = some o → MOk K H a o
theorem HR.sub {K : PySem.W.Frag} {H : Hp} {M M' : MH} (h : HR K H M') (s : Sub M M') : HR K H M := fun a o e => h a o (s a o e)
noncomputable abbrev En := List (Option T)
noncomputable def RhoR (K : PySem.W.Frag) (σ : St) (H : Hp) (ρ : En) : Prop := σ.length = ρ.length ∧ ∀ (i : Nat) (t : T), ρ[i]? = some (some t) → ∃ v, σ[i]? = some (some v) ∧ Rep K H v t
theorem RhoR.kp {K : PySem.W.Frag} {σ : St} {H H' : Hp} {ρ : En} (h : RhoR K σ H ρ) (k : Kp K H H') : RhoR K σ H' ρ := ⟨h.1, fun i t e => let ⟨v, a, b⟩ := h.2 i t e; ⟨v, a, Rep.kp k _ _ b⟩⟩
theorem RhoR.set {K : PySem.W.Frag} {σ : St} {H : Hp} {ρ : En} {v : V} {t : T} (h : RhoR K σ H ρ) (i : Nat) (r : Rep K H v t) : RhoR K (σ.set i (some v)) H (ρ.set i (some t)) := by
 refine ⟨by rw [List.length_set, List.length_set, h.1], fun j u e => ?_⟩
 by_cases hj : i = j
 ·subst hj
  have hi : i < ρ.length := by
   have := (List.getElem?_eq_some_iff.mp e).1
   rwa [List.length_set] at this
  rw [List.getElem?_set_self hi] at e
  cases e
  exact ⟨v, List.getElem?_set_self (show i < List.length σ by rw [h.1]; exact hi), r⟩
 ·rw [List.getElem?_set_ne hj] at e
  rw [List.getElem?_set_ne hj]
  exact h.2 j u e
noncomputable abbrev VK3 := T → MH → Prop
noncomputable abbrev TE3 := En → MH → VK3 → Prop
noncomputable abbrev TT3 := En → MH → (Bool → MH → Prop) → Prop
noncomputable abbrev TA3 := En → MH → (List T → MH → Prop) → Prop
structure Ends3 where
 nx : En → MH → Prop
 rt : VK3
 bk : En → MH → Prop := fun _ _ => False
 ct : En → MH → Prop := fun _ _ => False
noncomputable abbrev TS3 := Ends3 → En → MH → Prop
noncomputable def EndE (K : PySem.W.Frag) (H : Hp) (Q : VK3) (Q2 : VK) : Prop := ∀ t v M' H', Kp K H H' → HR K H' M' → Rep K H' v t → Q t M' → Q2 v H'
theorem EndE.kp {K : PySem.W.Frag} {H H' : Hp} {Q : VK3} {Q2 : VK} (h : EndE K H Q Q2) (k : Kp K H H') : EndE K H' Q Q2 := fun t v M' H1 k1 => h t v M' H1 (k.trans k1)
noncomputable def bE (K : PySem.W.Frag) (ρ : En) (M : MH) (Q : VK3) : TE := fun σ H Q2 => RhoR K σ H ρ ∧ HR K H M ∧ EndE K H Q Q2
noncomputable def HE (X : Cx) (e : Expr) (t : TE3) : Prop := ∀ ρ M Q, t ρ M Q → PE X e (bE X.K ρ M Q)
noncomputable def EndT (K : PySem.W.Frag) (H : Hp) (Q : Bool → MH → Prop) (Q2 : Bool → Hp → Prop) : Prop := ∀ b M' H', Kp K H H' → HR K H' M' → Q b M' → Q2 b H'
noncomputable def bT (K : PySem.W.Frag) (ρ : En) (M : MH) (Q : Bool → MH → Prop) : TT := fun σ H Q2 => RhoR K σ H ρ ∧ HR K H M ∧ EndT K H Q Q2
noncomputable def HT (X : Cx) (e : Expr) (t : TT3) : Prop := ∀ ρ M Q, t ρ M Q → PT X e (bT X.K ρ M Q)
noncomputable def EndA (K : PySem.W.Frag) (H : Hp) (Q : List T → MH → Prop) (Q2 : List V → Hp → Prop) : Prop := ∀ ts vs M' H', Kp K H H' → HR K H' M' → Reps K H' vs ts → Q ts M' → Q2 vs H'
noncomputable def bA (K : PySem.W.Frag) (ρ : En) (M : MH) (Q : List T → MH → Prop) : TA := fun σ H Q2 => RhoR K σ H ρ ∧ HR K H M ∧ EndA K H Q Q2
noncomputable def HA (X : Cx) (es : List Expr) (t : TA3) : Prop := ∀ ρ M Q, t ρ M Q → PA X es (bA X.K ρ M Q)
structure EndS (K : PySem.W.Frag) (H : Hp) (D : Ends3) (D2 : Ends) : Prop where
 nx : ∀ ρ' M' σ' H', Kp K H H' → RhoR K σ' H' ρ' → HR K H' M' → D.nx ρ' M' → D2.nx σ' H'
 rt : EndE K H D.rt D2.rt
 bk : ∀ ρ' M' σ' H', Kp K H H' → RhoR K σ' H' ρ' → HR K H' M' → D.bk ρ' M' → D2.bk σ' H'
 ct : ∀ ρ' M' σ' H', Kp K H H' → RhoR K σ' H' ρ' → HR K H' M' → D.ct ρ' M' → D2.ct σ' H'
theorem EndS.kp {K : PySem.W.Frag} {H H' : Hp} {D : Ends3} {D2 : Ends} (h : EndS K H D D2) (k : Kp K H H') : EndS K H' D D2 :=
 ⟨fun a b c d k1 => h.nx a b c d (k.trans k1), h.rt.kp k, fun a b c d k1 => h.bk a b c d (k.trans k1), fun a b c d k1 => h.ct a b c d (k.trans k1)⟩
noncomputable def bS (K : PySem.W.Frag) (D : Ends3) (ρ : En) (M : MH) : TS := fun D2 σ H => RhoR K σ H ρ ∧ HR K H M ∧ EndS K H D D2
noncomputable def HS (X : Cx) (st : Stmt) (t : TS3) : Prop := ∀ D ρ M, t D ρ M → PS X st (bS X.K D ρ M)
noncomputable def HSs (X : Cx) (st : List Stmt) (t : TS3) : Prop := ∀ D ρ M, t D ρ M → PSs X st (bS X.K D ρ M)
noncomputable def dE (K : PySem.W.Frag) (ρ : En) (t : TE3) : TE := fun σ H Q2 => ∃ M Q, t ρ M Q ∧ bE K ρ M Q σ H Q2
noncomputable def dT (K : PySem.W.Frag) (ρ : En) (t : TT3) : TT := fun σ H Q2 => ∃ M Q, t ρ M Q ∧ bT K ρ M Q σ H Q2
noncomputable def dA (K : PySem.W.Frag) (ρ : En) (t : TA3) : TA := fun σ H Q2 => ∃ M Q, t ρ M Q ∧ bA K ρ M Q σ H Q2
noncomputable def dS (K : PySem.W.Frag) (t : TS3) : TS := fun D2 σ H => ∃ D ρ M, t D ρ M ∧ bS K D ρ M D2 σ H
section
variable {X : Cx} {e : Expr} {es : List Expr} {st : Stmt} {sts : List Stmt} {ρ : En}
theorem HE.d {t : TE3} (h : HE X e t) : PE X e (dE X.K ρ t) := fun pins s σ H Q I ⟨M, Q3, q, b⟩ => h ρ M Q3 q pins s σ H Q I b
theorem HT.d {t : TT3} (h : HT X e t) : PT X e (dT X.K ρ t) := fun pins s σ H Q I ⟨M, Q3, q, b⟩ => h ρ M Q3 q pins s σ H Q I b
theorem HA.d {t : TA3} (h : HA X es t) : PA X es (dA X.K ρ t) := fun pos pins s σ H Q I ⟨M, Q3, q, b⟩ => h ρ M Q3 q pos pins s σ H Q I b
theorem HS.d {t : TS3} (h : HS X st t) : PS X st (dS X.K t) := fun pins s σ H D I ⟨D3, ρ, M, q, b⟩ => h D3 ρ M q pins s σ H D I b
theorem HSs.d {t : TS3} (h : HSs X sts t) : PSs X sts (dS X.K t) := fun pins s σ H D I ⟨D3, ρ, M, q, b⟩ => h D3 ρ M q pins s σ H D I b
end
mutual
noncomputable def eqT : T → T → Bool
 | .non, .non => true
 | .bl a, .bl b => a == b
 | .bl a, .int b => (if a then 1 else 0) == b
 | .int a, .bl b => a == (if b then 1 else 0)
 | .int a, .int b => a == b
 | .str a, .str b => a == b
 | .tup a, .tup b => eqTs a b
 | _, _ => false
noncomputable def eqTs : List T → List T → Bool
 | [], [] => true
 | x :: xs, y :: ys => eqT x y && eqTs xs ys
 | _, _ => false
end
mutual
noncomputable def a0G : T → Bool
 | .adr _ => false
 | .rd _ => false
 | .dic _ _ => false
 | .tup ts => a2a ts
 | _ => true
noncomputable def a2a : List T → Bool
 | [] => true
 | t :: ts => a0G t && a2a ts
end
mutual
noncomputable def depT : T → Nat
 | .tup ts => a4M ts + 1
 | _ => 0
noncomputable def a4M : List T → Nat
 | [] => 0
 | t :: ts => max (depT t) (a4M ts)
end
theorem a3u : ∀ {ts : List T} {j : Nat} {t : T}, a2a ts = true → ts[j]? = some t → a0G t = true
 | [], _, _, _, e => by simp at e
 | x :: ts, 0, t, h, e => by simp at e; subst e; unfold a2a at h; exact (Bool.and_eq_true _ _ ▸ h).1
 | x :: ts, j + 1, t, h, e => by
   unfold a2a at h
   exact a3u (j := j) (Bool.and_eq_true _ _ ▸ h).2 (by simpa using e)
theorem a6E : ∀ {ts : List T} {j : Nat} {t : T}, ts[j]? = some t → depT t ≤ a4M ts
 | [], _, _, e => by simp at e
 | x :: ts, 0, t, e => by simp at e; subst e; unfold a4M; exact Nat.le_max_left _ _
 | x :: ts, j + 1, t, e => by
   have := a6E (ts := ts) (j := j) (t := t) (by simpa using e)
   unfold a4M; exact Nat.le_trans this (Nat.le_max_right _ _)
noncomputable def eqJ (xs ys : List T) (j : Nat) : Bool := match xs[j]?, ys[j]? with
 | some x, some y => eqT x y
 | _, _ => true
theorem a4q : ∀ (xs ys : List T), (((List.range (min xs.length ys.length)).all (eqJ xs ys)) && (xs.length == ys.length)) = eqTs xs ys
 | [], [] => by unfold eqTs; rfl
 | [], y :: ys => by unfold eqTs; simp
 | x :: xs, [] => by unfold eqTs; simp
 | x :: xs, y :: ys => by
   unfold eqTs
   rw [← a4q xs ys]
   rw [List.length_cons, List.length_cons, Nat.succ_min_succ, List.range_succ_eq_map, List.all_cons, List.all_map]
   have e1 : eqJ (x :: xs) (y :: ys) 0 = eqT x y := rfl
   have e2 : (eqJ (x :: xs) (y :: ys)) ∘ Nat.succ = eqJ xs ys := by
    funext j; simp [eqJ]
   rw [e1, e2, Bool.and_assoc]
   congr 2
   simp
theorem b0Q : ∀ {xs ys : List T}, eqTs xs ys = true → xs.length = ys.length
 | [], [], _ => rfl
 | [], y :: ys, h => by unfold eqTs at h; cases h
 | x :: xs, [], h => by unfold eqTs at h; cases h
 | x :: xs, y :: ys, h => by
   unfold eqTs at h
   rw [Bool.and_eq_true] at h
   rw [List.length_cons, List.length_cons, b0Q h.2]
mutual
theorem a1P : ∀ (x : T), a0G x = true → eqT x x = true
 | .non, _ => rfl
 | .bl b, _ => by simp [eqT]
 | .int i, _ => by simp [eqT]
 | .str x, _ => by simp [eqT]
 | .adr a, h => by unfold a0G at h; cases h
 | .rd a, h => by unfold a0G at h; cases h
 | .dic ks a, h => by unfold a0G at h; cases h
 | .tup ts, h => by unfold a0G at h; unfold eqT; exact a9f ts h
theorem a9f : ∀ (xs : List T), a2a xs = true → eqTs xs xs = true
 | [], _ => by unfold eqTs; rfl
 | x :: xs, h => by
   unfold a2a at h
   rw [Bool.and_eq_true] at h
   unfold eqTs
   rw [a1P x h.1, a9f xs h.2]
   rfl
end
section
variable {X : Cx} {pins : List (Addr × Obj)} {σ : St} {H : Hp} {s : Shared}
theorem b5U (I : Inv X pins σ H s) : ∀ (x y : T) (v : V), a0G x = true → a0G y = true → Rep X.K H v x → Rep X.K H v y → eqT x y = true := by
 have key : ∀ n (x y : T) (v : V), depT x ≤ n → a0G x = true → a0G y = true → Rep X.K H v x → Rep X.K H v y → eqT x y = true := by
  intro n
  induction n with
  | zero =>
    intro x y v hd px py rx ry
    cases x with
    | tup ts => unfold depT at hd; lia
    | adr a => unfold a0G at px; cases px
    | rd a => unfold a0G at px; cases px
    | dic ks a => unfold a0G at px; cases px
    | _ => unfold Rep at rx; subst rx; cases y <;> unfold Rep at ry <;> first | (obtain ⟨_, _, e, _⟩ := ry; cases e; done) | (unfold a0G at py; cases py; done) | (cases ry <;> simp [eqT])
  | succ n ih =>
    intro x y v hd px py rx ry
    cases x with
    | adr a => unfold a0G at px; cases px
    | rd a => unfold a0G at px; cases px
    | dic ks a => unfold a0G at px; cases px
    | tup ts =>
      unfold Rep at rx
      obtain ⟨a, xs, rfl, h1, h2⟩ := rx
      cases y with
      | adr a => unfold a0G at py; cases py
      | rd a => unfold a0G at py; cases py
      | dic ks a => unfold a0G at py; cases py
      | tup us =>
        unfold Rep at ry
        obtain ⟨a', ys, e, g1, g2⟩ := ry
        cases e
        obtain rfl := I.tuple_inj h1 g1
        unfold a0G at px py
        unfold depT at hd
        unfold eqT
        have hl := h2.length
        have hl2 := g2.length
        rw [← a4q]
        rw [← hl, ← hl2]
        simp only [Nat.min_self, beq_self_eq_true, Bool.and_true, List.all_eq_true, List.mem_range]
        intro j hj
        have e1 : ts[j]? = some ts[j] := List.getElem?_eq_getElem (by lia)
        have e2 : us[j]? = some us[j] := List.getElem?_eq_getElem (by lia)
        obtain ⟨v1, q1, r1⟩ := h2.get e1
        obtain ⟨v2, q2, r2⟩ := g2.get e2
        rw [q1] at q2; cases q2
        unfold eqJ
        rw [e1, e2]
        have := a6E e1
        exact ih _ _ _ (by lia) (a3u px e1) (a3u py e2) r1 r2
      | _ => unfold Rep at ry; cases ry
    | _ => unfold Rep at rx; subst rx; cases y <;> unfold Rep at ry <;> first | (obtain ⟨_, _, e, _⟩ := ry; cases e; done) | (unfold a0G at py; cases py; done) | (cases ry <;> simp [eqT])
 exact fun x y v => key (depT x) x y v (Nat.le_refl _)
open SeqAt in
theorem b3s {A : Around} (x y : T) (v u : V) (a b : Value) (px : a0G x = true) (py : a0G y = true) (rx : Rep X.K H v x) (ry : Rep X.K H u y) (ra : RelV v a) (rb : RelV u b) (nx : ∀ ts, x ≠ .tup ts) (ny : ∀ ts, y ≠ .tup ts) :
  SeqAt.EqAt A s a b (eqT x y) ∧ SeqAt.RcAt A s a b (eqT x y) ∧ SeqAt.RcNeAt A s a b (!(eqT x y)) := by
 cases x with
 | tup ts => exact absurd rfl (nx ts)
 | adr p => unfold a0G at px; cases px
 | rd p => unfold a0G at px; cases px
 | dic ks p => unfold a0G at px; cases px
 | non =>
   unfold Rep at rx; subst rx
   cases ra
   cases y with
   | tup ts => exact absurd rfl (ny ts)
   | adr p => unfold a0G at py; cases py
   | rd p => unfold a0G at py; cases py
   | dic ks p => unfold a0G at py; cases py
   | non =>
     unfold Rep at ry; subst ry
     cases rb
     have e : eqT .non .non = true := rfl
     rw [e]
     exact ⟨EqAt.same _, RcAt.none_none, RcNeAt.none_none⟩
   | bl c0 =>
     unfold Rep at ry; subst ry
     cases rb
     have e : eqT .non (.bl c0) = false := rfl
     rw [e]
     exact ⟨EqAt.none_bool _, RcAt.none_bool _, RcNeAt.none_bool _⟩
   | int c0 =>
     unfold Rep at ry; subst ry
     obtain ⟨t_rb, rfl⟩ := rb
     have e : eqT .non (.int c0) = false := rfl
     rw [e]
     exact ⟨EqAt.none_int _ _, RcAt.none_int _ _, RcNeAt.none_int _ _⟩
   | str c0 =>
     unfold Rep at ry; subst ry
     obtain ⟨t_rb, rfl⟩ := rb
     have e : eqT .non (.str c0) = false := rfl
     rw [e]
     exact ⟨EqAt.none_str _ _, RcAt.none_str _ _, RcNeAt.none_str _ _⟩
 | bl b0 =>
   unfold Rep at rx; subst rx
   cases ra
   cases y with
   | tup ts => exact absurd rfl (ny ts)
   | adr p => unfold a0G at py; cases py
   | rd p => unfold a0G at py; cases py
   | dic ks p => unfold a0G at py; cases py
   | non =>
     unfold Rep at ry; subst ry
     cases rb
     have e : eqT (.bl b0) .non = false := rfl
     rw [e]
     exact ⟨EqAt.bool_none _, RcAt.bool_none _, RcNeAt.bool_none _⟩
   | bl c0 =>
     unfold Rep at ry; subst ry
     cases rb
     have e : eqT (.bl b0) (.bl c0) = (b0 == c0) := rfl
     rw [e]
     exact ⟨EqAt.bool_bool _ _, RcAt.bool_bool _ _, RcNeAt.bool_bool _ _⟩
   | int c0 =>
     unfold Rep at ry; subst ry
     obtain ⟨t_rb, rfl⟩ := rb
     have e : eqT (.bl b0) (.int c0) = ((if b0 then 1 else 0) == c0) := rfl
     rw [e]
     exact ⟨EqAt.bool_int _ _ _, RcAt.bool_int _ _ _, RcNeAt.bool_int _ _ _⟩
   | str c0 =>
     unfold Rep at ry; subst ry
     obtain ⟨t_rb, rfl⟩ := rb
     have e : eqT (.bl b0) (.str c0) = false := rfl
     rw [e]
     exact ⟨EqAt.bool_str _ _ _, RcAt.bool_str _ _ _, RcNeAt.bool_str _ _ _⟩
 | int b0 =>
   unfold Rep at rx; subst rx
   obtain ⟨t_ra, rfl⟩ := ra
   cases y with
   | tup ts => exact absurd rfl (ny ts)
   | adr p => unfold a0G at py; cases py
   | rd p => unfold a0G at py; cases py
   | dic ks p => unfold a0G at py; cases py
   | non =>
     unfold Rep at ry; subst ry
     cases rb
     have e : eqT (.int b0) .non = false := rfl
     rw [e]
     exact ⟨EqAt.int_none _ _, RcAt.int_none _ _, RcNeAt.int_none _ _⟩
   | bl c0 =>
     unfold Rep at ry; subst ry
     cases rb
     have e : eqT (.int b0) (.bl c0) = (b0 == (if c0 then 1 else 0)) := rfl
     rw [e]
     exact ⟨EqAt.int_bool _ _ _, RcAt.int_bool _ _ _, RcNeAt.int_bool _ _ _⟩
   | int c0 =>
     unfold Rep at ry; subst ry
     obtain ⟨t_rb, rfl⟩ := rb
     have e : eqT (.int b0) (.int c0) = (b0 == c0) := rfl
     rw [e]
     exact ⟨EqAt.int_int _ _ _ _, RcAt.int_int _ _ _ _, RcNeAt.int_int _ _ _ _⟩
   | str c0 =>
     unfold Rep at ry; subst ry
     obtain ⟨t_rb, rfl⟩ := rb
     have e : eqT (.int b0) (.str c0) = false := rfl
     rw [e]
     exact ⟨EqAt.int_str _ _ _ _, RcAt.int_str _ _ _ _, RcNeAt.int_str _ _ _ _⟩
 | str b0 =>
   unfold Rep at rx; subst rx
   obtain ⟨t_ra, rfl⟩ := ra
   cases y with
   | tup ts => exact absurd rfl (ny ts)
   | adr p => unfold a0G at py; cases py
   | rd p => unfold a0G at py; cases py
   | dic ks p => unfold a0G at py; cases py
   | non =>
     unfold Rep at ry; subst ry
     cases rb
     have e : eqT (.str b0) .non = false := rfl
     rw [e]
     exact ⟨EqAt.str_none _ _, RcAt.str_none _ _, RcNeAt.str_none _ _⟩
   | bl c0 =>
     unfold Rep at ry; subst ry
     cases rb
     have e : eqT (.str b0) (.bl c0) = false := rfl
     rw [e]
     exact ⟨EqAt.str_bool _ _ _, RcAt.str_bool _ _ _, RcNeAt.str_bool _ _ _⟩
   | int c0 =>
     unfold Rep at ry; subst ry
     obtain ⟨t_rb, rfl⟩ := rb
     have e : eqT (.str b0) (.int c0) = false := rfl
     rw [e]
     exact ⟨EqAt.str_int _ _ _ _, RcAt.str_int _ _ _ _, RcNeAt.str_int _ _ _ _⟩
   | str c0 =>
     unfold Rep at ry; subst ry
     obtain ⟨t_rb, rfl⟩ := rb
     have e : eqT (.str b0) (.str c0) = (b0 == c0) := rfl
     rw [e]
     exact ⟨EqAt.str_str _ _ _ _, RcAt.str_str _ _ _ _, RcNeAt.str_str _ _ _ _⟩
theorem b9K {x : T} (h : ∀ ts, x ≠ .tup ts) : depT x = 0 := by
 cases x with
 | tup ts => exact absurd rfl (h ts)
 | _ => rfl
open SeqAt in
/-- a tuple against what is none -/
theorem b1P {A : Around} {p : Addr} {its : Array Value} (ht : s.heap.IsTuple p its) (hu : A.units < cLine) (x : T) (us : List T) (v : V) (a : Value) (px : a0G x = true) (rx : Rep X.K H v x) (ra : RelV v a) (nx : ∀ ts, x ≠ .tup ts) :
  SeqAt.EqAt A s a (.ref p) (eqT x (.tup us)) ∧ SeqAt.RcAt A s a (.ref p) (eqT x (.tup us)) ∧ SeqAt.RcNeAt A s a (.ref p) (!(eqT x (.tup us))) := by
 cases x with
 | tup ts => exact absurd rfl (nx ts)
 | adr q => unfold a0G at px; cases px
 | rd q => unfold a0G at px; cases px
 | dic ks q => unfold a0G at px; cases px
 | non =>
   unfold Rep at rx; subst rx; cases ra
   have e : eqT .non (.tup us) = false := rfl
   rw [e]; exact ⟨.none_tuple ht hu, .none_tuple ht hu, .none_tuple ht hu⟩
 | bl b0 =>
   unfold Rep at rx; subst rx; cases ra
   have e : eqT (.bl b0) (.tup us) = false := rfl
   rw [e]; exact ⟨.bool_tuple _ ht hu, .bool_tuple _ ht hu, .bool_tuple _ ht hu⟩
 | int b0 =>
   unfold Rep at rx; subst rx; obtain ⟨t, rfl⟩ := ra
   have e : eqT (.int b0) (.tup us) = false := rfl
   rw [e]; exact ⟨.int_tuple _ _ ht hu, .int_tuple _ _ ht hu, .int_tuple _ _ ht hu⟩
 | str b0 =>
   unfold Rep at rx; subst rx; obtain ⟨t, rfl⟩ := ra
   have e : eqT (.str b0) (.tup us) = false := rfl
   rw [e]; exact ⟨.str_tuple _ _ ht hu, .str_tuple _ _ ht hu, .str_tuple _ _ ht hu⟩
open SeqAt in
theorem b1Q {A : Around} {p : Addr} {its : Array Value} (ht : s.heap.IsTuple p its) (hu : A.units < cLine) (x : T) (us : List T) (v : V) (a : Value) (px : a0G x = true) (rx : Rep X.K H v x) (ra : RelV v a) (nx : ∀ ts, x ≠ .tup ts) :
  SeqAt.EqAt A s (.ref p) a (eqT (.tup us) x) ∧ SeqAt.RcAt A s (.ref p) a (eqT (.tup us) x) ∧ SeqAt.RcNeAt A s (.ref p) a (!(eqT (.tup us) x)) := by
 cases x with
 | tup ts => exact absurd rfl (nx ts)
 | adr q => unfold a0G at px; cases px
 | rd q => unfold a0G at px; cases px
 | dic ks q => unfold a0G at px; cases px
 | non =>
   unfold Rep at rx; subst rx; cases ra
   have e : eqT (.tup us) .non = false := rfl
   rw [e]; exact ⟨.tuple_none ht hu, .tuple_none ht hu, .tuple_none ht hu⟩
 | bl b0 =>
   unfold Rep at rx; subst rx; cases ra
   have e : eqT (.tup us) (.bl b0) = false := rfl
   rw [e]; exact ⟨.tuple_bool _ ht hu, .tuple_bool _ ht hu, .tuple_bool _ ht hu⟩
 | int b0 =>
   unfold Rep at rx; subst rx; obtain ⟨t, rfl⟩ := ra
   have e : eqT (.tup us) (.int b0) = false := rfl
   rw [e]; exact ⟨.tuple_int _ _ ht hu, .tuple_int _ _ ht hu, .tuple_int _ _ ht hu⟩
 | str b0 =>
   unfold Rep at rx; subst rx; obtain ⟨t, rfl⟩ := ra
   have e : eqT (.tup us) (.str b0) = false := rfl
   rw [e]; exact ⟨.tuple_str _ _ ht hu, .tuple_str _ _ ht hu, .tuple_str _ _ ht hu⟩
theorem b0v (x : T) : (∃ ts, x = .tup ts) ∨ ∀ ts, x ≠ .tup ts := by
 cases x with
 | tup ts => exact .inl ⟨ts, rfl⟩
 | _ => exact .inr fun ts e => by cases e
theorem b0K {A : Around} {n : Nat} {ts us : List T} {xs ys : List V} {its its2 : List Value} (px : a2a ts = true) (py : a2a us = true) (hd : a4M ts ≤ n) (h2 : Reps X.K H xs ts) (g2 : Reps X.K H ys us) (r1 : Vals xs its) (r2 : Vals ys its2)
  (ih : ∀ (x y : T) (v u : V) (a b : Value), depT x ≤ n → a0G x = true → a0G y = true → Rep X.K H v x → Rep X.K H u y → RelV v a → RelV u b → SeqAt.EqAt A s a b (eqT x y)) (j : Nat) (hj1 : j < its.toArray.size) (hj2 : j < its2.toArray.size) :
  SeqAt.EqAt A s its.toArray[j] its2.toArray[j] (eqJ ts us j) := by
 have l1 := h2.length
 have l2 := g2.length
 have m1 := r1.length
 have m2 := r2.length
 have hj1' : j < its.length := by simpa using hj1
 have hj2' : j < its2.length := by simpa using hj2
 have e1 : ts[j]? = some (ts[j]'(by lia)) := List.getElem?_eq_getElem (by lia)
 have e2 : us[j]? = some (us[j]'(by lia)) := List.getElem?_eq_getElem (by lia)
 obtain ⟨v1, a1, b1⟩ := h2.get e1
 obtain ⟨v2, a2, b2⟩ := g2.get e2
 obtain ⟨w1, c1, d1⟩ := r1.get a1
 obtain ⟨w2, c2, d2⟩ := r2.get a2
 have f1 : its.toArray[j] = w1 := by
  have : its[j]? = some (its[j]'hj1') := List.getElem?_eq_getElem hj1'
  rw [c1] at this
  simpa using (Option.some.inj this).symm
 have f2 : its2.toArray[j] = w2 := by
  have : its2[j]? = some (its2[j]'hj2') := List.getElem?_eq_getElem hj2'
  rw [c2] at this
  simpa using (Option.some.inj this).symm
 have e3 : eqJ ts us j = eqT (ts[j]'(by lia)) (us[j]'(by lia)) := by unfold eqJ; rw [e1, e2]
 rw [f1, f2, e3]
 have := a6E e1
 exact ih _ _ v1 v2 w1 w2 (by lia) (a3u px e1) (a3u py e2) b1 b2 d1 d2
open SeqAt in
/-- == (by identity first), ==, != of two values, by their trees -/
theorem b3t (I : Inv X pins σ H s) : ∀ n (A : Around) (x y : T) (v u : V) (a b : Value), depT x ≤ n → A.units + n + 1 < cLine → a0G x = true → a0G y = true → Rep X.K H v x → Rep X.K H u y → RelV v a → RelV u b →
  SeqAt.EqAt A s a b (eqT x y) ∧ SeqAt.RcAt A s a b (eqT x y) ∧ SeqAt.RcNeAt A s a b (!(eqT x y)) := by
 intro n
 induction n with
 | zero =>
   intro A x y v u a b hd hu px py rx ry ra rb
   rcases b0v x with ⟨ts, rfl⟩ | nx
   ·unfold depT at hd; lia
   ·rcases b0v y with ⟨us, rfl⟩ | ny
    ·unfold Rep at ry
     obtain ⟨p, ys, rfl, g1, g2⟩ := ry
     obtain ⟨its, r', ht, _⟩ := I.tuple g1
     have ht' : s.heap.IsTuple p its.toArray := ht
     cases rb
     exact b1P ht' (by lia) x us v a px rx ra nx
    ·exact b3s x y v u a b px py rx ry ra rb nx ny
 | succ n ih =>
   intro A x y v u a b hd hu px py rx ry ra rb
   have hu' : A.units < cLine := by lia
   rcases b0v x with ⟨ts, rfl⟩ | nx
   ·have rx' := rx
    unfold Rep at rx
    obtain ⟨p, xs, rfl, h1, h2⟩ := rx
    cases ra
    obtain ⟨its, r1, ht, _⟩ := I.tuple h1
    have ht' : s.heap.IsTuple p its.toArray := ht
    rcases b0v y with ⟨us, rfl⟩ | ny
    ·have ry' := ry
     unfold Rep at ry
     obtain ⟨q, ys, rfl, g1, g2⟩ := ry
     cases rb
     obtain ⟨its2, r2, ht2, _⟩ := I.tuple g1
     have ht2' : s.heap.IsTuple q its2.toArray := ht2
     have px' := px
     have py' := py
     unfold a0G at px py
     unfold depT at hd
     have he := b0K (A := A.in1) (s := s) (n := n) px py (by lia) h2 g2 r1 r2 fun x y v u a b hx px py rx ry ra rb => (ih A.in1 x y v u a b hx (by show A.units + 1 + n + 1 < cLine; lia) px py rx ry ra rb).1
     have ee : ((List.range (min its.toArray.size its2.toArray.size)).all (eqJ ts us) && its.toArray.size == its2.toArray.size) = eqT (.tup ts) (.tup us) := by
      have l1 := h2.length
      have l2 := g2.length
      have m1 := r1.length
      have m2 := r2.length
      unfold eqT
      rw [← a4q, List.size_toArray, List.size_toArray, ← m1, ← m2, l1, l2]
     have rc := RcAt.tuples (A := A) (e := eqJ ts us) ht' ht2' hu' he
     have rn := RcNeAt.tuples (A := A) (e := eqJ ts us) ht' ht2' hu' he
     rw [ee] at rc rn
     refine ⟨?_, rc, rn⟩
     by_cases hpq : p = q
     ·subst hpq
      have e : eqT (.tup ts) (.tup us) = true := b5U I (.tup ts) (.tup us) (.ref p) px' py' rx' ry'
      rw [e]; exact .same _
     ·exact .of_refs hpq rc
    ·exact b1Q ht' hu' y ts u b py ry rb ny
   ·exact ih A x y v u a b (by rw [b9K nx]; exact Nat.zero_le _) (by lia) px py rx ry ra rb
end
noncomputable abbrev R3 := T → T → MH → VK3 → Prop
noncomputable def dR (K : PySem.W.Frag) (r : R3) : R2 := fun v u H Q2 => ∃ x y M Q, Rep K H v x ∧ Rep K H u y ∧ HR K H M ∧ r x y M Q ∧ EndE K H Q Q2
noncomputable def dU (K : PySem.W.Frag) (r : T → MH → VK3 → Prop) : V → Hp → VK → Prop := fun v H Q2 => ∃ x M Q, Rep K H v x ∧ HR K H M ∧ r x M Q ∧ EndE K H Q Q2
noncomputable def dL (K : PySem.W.Frag) (r : List T → MH → VK3 → Prop) : List V → Hp → VK → Prop := fun vs H Q2 => ∃ xs M Q, Reps K H vs xs ∧ HR K H M ∧ r xs M Q ∧ EndE K H Q Q2
theorem Kp.new {K : PySem.W.Frag} {H : Hp} {p : Addr} {o : HO} (h : H p = none) : Kp K H (upd H p o) := by
 refine ⟨fun a xs q => ?_, fun a ob u q => by rw [a0y (a0r q h)]; exact q⟩
 rcases q with (q | ⟨ob, q⟩) | q
 ·exact .inl (.inl (by rw [a0y (a0r q h)]; exact q))
 ·exact .inl (.inr ⟨ob, by rw [a0y (a0r q h)]; exact q⟩)
 ·exact .inr q
theorem Kp.lst {K : PySem.W.Frag} {H : Hp} {p : Addr} {xs ys : List V} (h : H p = some (.lst xs)) : Kp K H (upd H p (.lst ys)) := by
 have ne : ∀ {a : Addr} {o : HO}, H a = some o → o ≠ .lst xs → a ≠ p := fun {a o} q hn e => by
  subst e
  rw [h] at q; cases q; exact hn rfl
 refine ⟨fun a zs q => ?_, fun a ob u q => by rw [a0y (ne q (by intro z; cases z))]; exact q⟩
 rcases q with (q | ⟨ob, q⟩) | q
 ·exact .inl (.inl (by rw [a0y (ne q (by intro z; cases z))]; exact q))
 ·exact .inl (.inr ⟨ob, by rw [a0y (ne q (by intro z; cases z))]; exact q⟩)
 ·exact .inr q
theorem Kp.dict {K : PySem.W.Frag} {H : Hp} {p : Addr} {o u : HO} (h : H p = some o) (ho : (∃ kvs, o = .dK kvs) ∨ ∃ kvs, o = .dT kvs) : Kp K H (upd H p u) := by
 have ne : ∀ {a : Addr} {u : HO}, H a = some u → ((∃ xs, u = .tup xs) ∨ ∃ b x, u = .frz b x) → a ≠ p := fun {a u} q hn e => by
  subst e
  rw [h] at q; cases q
  rcases ho with ⟨_, rfl⟩ | ⟨_, rfl⟩ <;> rcases hn with ⟨_, z⟩ | ⟨_, _, z⟩ <;> cases z
 refine ⟨fun a zs q => ?_, fun a ob u q => by rw [a0y (ne q (.inr ⟨_, _, rfl⟩))]; exact q⟩
 rcases q with (q | ⟨ob, q⟩) | q
 ·exact .inl (.inl (by rw [a0y (ne q (.inl ⟨_, rfl⟩))]; exact q))
 ·exact .inl (.inr ⟨ob, by rw [a0y (ne q (.inr ⟨_, _, rfl⟩))]; exact q⟩)
 ·exact .inr q
section
variable {K : PySem.W.Frag} {H : Hp} {M : MH}
noncomputable def Wr : HO → Prop
 | .lst _ => True
 | .dK _ => True
 | .dT _ => True
 | .frz _ _ => True
 | _ => False
theorem MOk.kp {H' : Hp} {a : Addr} {o : MO} (h : MOk K H a o) (k : Kp K H H') (ha : ∀ u, Wr u → H a = some u → H' a = some u) : MOk K H' a o := by
 cases o with
 | lst ts => obtain ⟨xs, e, r⟩ := h; exact ⟨xs, ha _ trivial e, Reps.kp k _ _ r⟩
 | dk kvs => obtain ⟨xs, e, r⟩ := h; exact ⟨xs, ha _ trivial e, r.kp k⟩
 | dt kvs => obtain ⟨xs, e, r⟩ := h; exact ⟨xs, ha _ trivial e, r.kp k⟩
 | fz kvs => obtain ⟨ob, xs, e, r⟩ := h; exact ⟨ob, xs, k.frz _ _ _ e, r.kp k⟩
 | fk kvs =>
   obtain ⟨xs, e, r⟩ := h
   rcases e with e | ⟨ob, e⟩
   ·exact ⟨xs, .inl (ha _ trivial e), r.kp k⟩
   ·exact ⟨xs, .inr ⟨ob, k.frz _ _ _ e⟩, r.kp k⟩
theorem MOk.some {a : Addr} {o : MO} (h : MOk K H a o) : ∃ u, H a = Option.some u ∧ Wr u := by
 cases o with
 | lst ts => obtain ⟨xs, e, r⟩ := h; exact ⟨_, e, trivial⟩
 | dk kvs => obtain ⟨xs, e, r⟩ := h; exact ⟨_, e, trivial⟩
 | dt kvs => obtain ⟨xs, e, r⟩ := h; exact ⟨_, e, trivial⟩
 | fz kvs => obtain ⟨ob, xs, e, r⟩ := h; exact ⟨_, e, trivial⟩
 | fk kvs =>
   obtain ⟨xs, e, r⟩ := h
   rcases e with e | ⟨ob, e⟩
   ·exact ⟨_, e, trivial⟩
   ·exact ⟨_, e, trivial⟩
theorem HR.free {p : Addr} (h : HR K H M) (hp : H p = none) : M p = none := by
 cases q : M p with
 | none => rfl
 | some o =>
   obtain ⟨u, e, _⟩ := (h p o q).some
   rw [hp] at e; cases e
theorem HR.keep {p : Addr} {o : HO} (h : HR K H M) (hp : H p = none) : HR K (upd H p o) M := fun a u e =>
 (h a u e).kp (Kp.new hp) fun u _ q => by rw [a0y (a0r q hp)]; exact q
theorem HR.newL {p : Addr} {xs : List V} {ts : List T} (h : HR K H M) (hp : H p = none) (r : Reps K H xs ts) : HR K (upd H p (.lst xs)) (updM M p (.lst ts)) := fun a u e => by
 by_cases ha : a = p
 ·subst ha
  rw [a0d] at e; cases e
  exact ⟨xs, a0O, Reps.kp (Kp.new hp) _ _ r⟩
 ·rw [a0k ha] at e
  exact (h.keep hp) a u e
theorem HR.setL {p : Addr} {xs ys : List V} {us : List T} (h : HR K H M) (hp : H p = some (.lst xs)) (r : Reps K H ys us) : HR K (upd H p (.lst ys)) (updM M p (.lst us)) := fun a u e => by
 by_cases ha : a = p
 ·subst ha
  rw [a0d] at e; cases e
  exact ⟨ys, a0O, Reps.kp (Kp.lst hp) _ _ r⟩
 ·rw [a0k ha] at e
  exact (h a u e).kp (Kp.lst hp) fun u _ q => by rw [a0y ha]; exact q
theorem HR.newT {p : Addr} {xs : List (List Key × V)} {kvs : List (List Key × T)} (h : HR K H M) (hp : H p = none) (r : KRep K H xs kvs) : HR K (upd H p (.dT xs)) (updM M p (.dt kvs)) := fun a u e => by
 by_cases ha : a = p
 ·subst ha
  rw [a0d] at e; cases e
  exact ⟨xs, a0O, r.kp (Kp.new hp)⟩
 ·rw [a0k ha] at e
  exact (h.keep hp) a u e
theorem HR.setT {p : Addr} {o : HO} {xs : List (List Key × V)} {kvs : List (List Key × T)} (h : HR K H M) (hp : H p = some o) (ho : (∃ kvs, o = .dK kvs) ∨ ∃ kvs, o = .dT kvs) (r : KRep K H xs kvs) : HR K (upd H p (.dT xs)) (updM M p (.dt kvs)) := fun a u e => by
 by_cases ha : a = p
 ·subst ha
  rw [a0d] at e; cases e
  exact ⟨xs, a0O, r.kp (Kp.dict hp ho)⟩
 ·rw [a0k ha] at e
  exact (h a u e).kp (Kp.dict hp ho) fun u _ q => by rw [a0y ha]; exact q
end
noncomputable def OpR3 (X : Cx) (f : Value → Value → Sem Value) (r : R3) : Prop := OpR X f (dR X.K r)
noncomputable def UnR3 (X : Cx) (f : Value → Sem Value) (r : T → MH → VK3 → Prop) : Prop := UnR X f (dU X.K r)
noncomputable def a5i (X : Cx) (f : Value) (r : List T → MH → VK3 → Prop) : Prop := a6R X f (dL X.K r)
noncomputable def IxR3 (X : Cx) (r : R3) : Prop := IxR X (dR X.K r)
noncomputable def tOp3 (r : R3) (ta tb : TE3) : TE3 := fun ρ M Q => ta ρ M fun x M1 => tb ρ M1 fun y M2 => r x y M2 Q
noncomputable def tUn3 (r : T → MH → VK3 → Prop) (ta : TE3) : TE3 := fun ρ M Q => ta ρ M fun x M1 => r x M1 Q
noncomputable def b3Y (i : Nat) : TE3 := fun ρ M Q => match ρ[i]? with
 | some (some t) => Q t M
 | _ => False
noncomputable def tK (t : T) : TE3 := fun _ M Q => Q t M
section
variable {X : Cx} {a b c e : Expr} {es : List Expr} {ta tb tc te : TE3} {pos : Pos}
theorem dOp {ρ : En} {M : MH} {Q : VK3} {r : R3} (h : tOp3 r ta tb ρ M Q) {σ : St} {H : Hp} {Q2 : VK} (b : bE X.K ρ M Q σ H Q2) : tOp (dR X.K r) (dE X.K ρ ta) (dE X.K ρ tb) σ H Q2 := by
 obtain ⟨hr, hh, en⟩ := b
 refine ⟨M, _, h, hr, hh, fun t v M1 H1 k1 h1 r1 q1 => ⟨M1, _, q1, hr.kp k1, h1, fun t2 v2 M2 H2 k2 h2 r2 q2 => ⟨t, t2, M2, Q, Rep.kp k2 _ _ r1, r2, h2, q2, en.kp (k1.trans k2)⟩⟩⟩
theorem a0s {op : Operator} {r : R3} (ho : OpR3 X (binaryOp op) r) (ha : HE X a ta) (hb : HE X b tb) : HE X (.BinOp a op b pos) (tOp3 r ta tb) := fun ρ M Q h =>
 (b9o ho (ha.d (ρ := ρ)) (hb.d (ρ := ρ))).imp fun σ H Q2 b => dOp h b
theorem h_un {op : UnaryOp} {r : T → MH → VK3 → Prop} (ho : UnR3 X (unaryOp op) r) (ha : HE X a ta) : HE X (.UnaryOp op a pos) (tUn3 r ta) := fun ρ M Q h =>
 (b9m ho (ha.d (ρ := ρ))).imp fun σ H Q2 ⟨hr, hh, en⟩ => ⟨M, _, h, hr, hh, fun t v M1 H1 k1 h1 r1 q1 => ⟨t, M1, Q, r1, h1, q1, en.kp k1⟩⟩
theorem b9F {i : Nat} {x : Str} (hN : X.N[i]? = some x) (hv : Vis X.env.scope x) (hd : (x == ("__debug__" : Str)) = false := by decide) (hcd : (x == ("__classdict__" : Str)) = false := by decide) : HE X (.Name x pos) (b3Y i) := fun ρ M Q h =>
 (b7Z hN hv hd hcd).imp fun σ H Q2 ⟨hr, hh, en⟩ => by
  unfold b3Y at h
  split at h
  ·rename_i t e
   obtain ⟨v, e1, r⟩ := hr.2 i t e
   exact ⟨v, e1, en t v M H Kp.refl hh r h⟩
  ·exact h.elim
theorem hv (i : Nat) {x : Str} {pos : Pos} (hN : X.N[i]? = some x := by rfl) (hv : Vis X.env.scope x := by first | exact Or.inl rfl | exact Or.inr (Or.inl rfl) | exact Or.inr (Or.inr rfl)) (hd : (x == ("__debug__" : Str)) = false := by decide)
  (hcd : (x == ("__classdict__" : Str)) = false := by decide) : HE X (.Name x pos) (b3Y i) := b9F hN hv hd hcd
theorem a0U {K : PySem.W.Frag} {H : Hp} {i : Int} : Rep K H (.int i) (.int i) := by unfold Rep; rfl
theorem a2L {K : PySem.W.Frag} {H : Hp} {i : Bool} : Rep K H (.bl i) (.bl i) := by unfold Rep; rfl
theorem a7I {K : PySem.W.Frag} {H : Hp} {i : Str} : Rep K H (.str i) (.str i) := by unfold Rep; rfl
theorem a6e {K : PySem.W.Frag} {H : Hp} : Rep K H .non .non := by unfold Rep; rfl
theorem a2G {K : PySem.W.Frag} {H : Hp} {a : Addr} : Rep K H (.ref a) (.adr a) := by unfold Rep; rfl
theorem a2F {K : PySem.W.Frag} {H : Hp} {a : Addr} {xs : List V} {ts : List T} (h : SqT K H a xs) (r : Reps K H xs ts) : Rep K H (.ref a) (.tup ts) := by unfold Rep; exact ⟨a, xs, rfl, h, r⟩
theorem a6y {v : V} {t : T} (h : PE X e (tC v)) (r : ∀ K H, Rep K H v t) : HE X e (tK t) := fun ρ M Q q => h.imp fun σ H Q2 ⟨hr, hh, en⟩ => en t v M H Kp.refl hh (r _ _) q
theorem a0f {i j pos} : HE X (.Constant (.int i) j pos) (tK (.int i)) := a6y b8e fun _ _ => a0U
theorem h_bl {b j pos} : HE X (.Constant (.bool b) j pos) (tK (.bl b)) := a6y b9r fun _ _ => a2L
theorem a5u {j pos} : HE X (.Constant .none j pos) (tK .non) := a6y b8c fun _ _ => a6e
theorem a1u {x j pos} : HE X (.Constant (.str x) j pos) (tK (.str x)) := a6y b8a fun _ _ => a7I
theorem a6x {x : Str} {i : Int} {tk : Tok} {pos : Pos} (hm : X.mg x = some (.int i tk)) (hg : Gl X x := by rfl) (hd : (x == ("__debug__" : Str)) = false := by decide) : HE X (.Name x pos) (tK (.int i)) := a6y (v := .int i) (b6t hg hm ⟨tk, rfl⟩ hd) fun _ _ => a0U
theorem a0z {K : PySem.W.Frag} {H : Hp} {v : V} {i : Int} (r : Rep K H v (.int i)) : v = .int i := by unfold Rep at r; exact r
theorem a3p {K : PySem.W.Frag} {H : Hp} {v : V} {i : Str} (r : Rep K H v (.str i)) : v = .str i := by unfold Rep at r; exact r
theorem a3m {K : PySem.W.Frag} {H : Hp} {v : V} {i : Bool} (r : Rep K H v (.bl i)) : v = .bl i := by unfold Rep at r; exact r
theorem a6s {K : PySem.W.Frag} {H : Hp} {v : V} (r : Rep K H v .non) : v = .non := by unfold Rep at r; exact r
theorem a0I {K : PySem.W.Frag} {H : Hp} {v : V} {a : Addr} (r : Rep K H v (.adr a)) : v = .ref a := by unfold Rep at r; exact r
theorem a1n {K : PySem.W.Frag} {H : Hp} {v : V} {ts : List T} (r : Rep K H v (.tup ts)) : ∃ a xs, v = .ref a ∧ SqT K H a xs ∧ Reps K H xs ts := by unfold Rep at r; exact r
noncomputable def rInt (C : Int → Int → Prop) (g : Int → Int → Int) : R3 := fun x y M Q => match x, y with
 | .int i, .int j => C i j ∧ Q (.int (g i j)) M
 | _, _ => False
theorem a9P {f : Value → Value → Sem Value} {C : Int → Int → Prop} {g : Int → Int → Int} (h : OpR X f (rI C fun i j => .int (g i j))) : OpR3 X f (rInt C g) := by
 intro pins s σ H x y v u Q2 I rx ry q
 obtain ⟨a, b, M, Q, r1, r2, hh, q, en⟩ := q
 unfold rInt at q
 split at q
 ·obtain rfl := a0z r1
  obtain rfl := a0z r2
  exact h pins s σ H _ _ v u Q2 I rx ry ⟨_, _, rfl, rfl, q.1, en _ _ M H Kp.refl hh a0U q.2⟩
 ·exact q.elim
noncomputable def b5V : R3 := fun x y M Q => match x, y with
 | .int i, .int j => Q (.int (i - j)) M
 | _, _ => False
theorem a1R : OpR3 X (binaryOp .Sub) b5V := by
 intro pins s σ H x y v u Q2 I rx ry q
 obtain ⟨a, b, M, Q, r1, r2, hh, q, en⟩ := q
 unfold b5V at q
 split at q
 ·obtain rfl := a0z r1
  obtain rfl := a0z r2
  exact b8g pins s σ H _ _ v u Q2 I rx ry ⟨_, _, rfl, rfl, en _ _ M H Kp.refl hh a0U q⟩
 ·exact q.elim
noncomputable def b7d (i j : Int) : Prop := 0 < j ∧ j.natAbs.log2 < 9000
theorem b4v : OpR X (binaryOp .FloorDiv) (rI b7d fun i j => .int (i / j)) := opI fun i j _ _ _ _ _ hc q => by
 have e : i.fdiv j = i / j := Int.fdiv_eq_ediv_of_nonneg i (Int.le_of_lt hc.1)
 exact floordiv_int (Int.ne_of_gt hc.1) (by rw [e]; exact q) (.inl (PyProof.noPylong_of_log2 hc.2))
noncomputable def b7N : R3 := rInt b7d fun i j => i / j
noncomputable def b7L : R3 := rInt (fun _ j => 0 < j) fun i j => i % j
noncomputable def b7J : R3 := rInt CPow fun i j => i ^ j.toNat
theorem a7S : OpR3 X (binaryOp .FloorDiv) b7N := a9P b4v
theorem a2u : OpR3 X (binaryOp .Mod) b7L := a9P b8k
theorem b2F : OpR3 X (binaryOp .Pow) b7J := a9P b8i
noncomputable def b5W : T → MH → VK3 → Prop := fun x M Q => match x with
 | .int i => Q (.int (-i)) M
 | _ => False
theorem a2E : UnR3 X (unaryOp .USub) b5W := by
 intro pins s σ H x v Q2 I rx q
 obtain ⟨a, M, Q, r1, hh, q, en⟩ := q
 unfold b5W at q
 split at q
 ·obtain rfl := a0z r1
  exact b7e pins s σ H _ v Q2 I rx ⟨_, rfl, en _ _ M H Kp.refl hh a0U q⟩
 ·exact q.elim
theorem b4w : OpR X (binaryOp .Add) (fun x y H Q => ∃ a b ys, x = .ref a ∧ y = .ref b ∧ SqT X.K H a [] ∧ SqT X.K H b ys ∧ Q (.ref b) H) := by
 intro pins s σ H x y v u Q I rx ry h
 obtain ⟨a, b, ys, rfl, rfl, hx, hy, q⟩ := h
 cases rx
 cases ry
 obtain ⟨its, r, ht, hz⟩ := I.tuple hx
 obtain ⟨its2, r2, ht2, hz2⟩ := I.tuple hy
 have e : its = [] := r.nil_iff.mpr rfl
 subst e
 obtain ⟨⟨cls, dd, data, sl⟩, ho, hc, n, hd⟩ := id ht
 obtain ⟨⟨cls2, dd2, data2, sl2⟩, ho2, hc2, n2, hd2⟩ := id ht2
 simp only at hc hd hc2 hd2
 subst hc hd hc2 hd2
 exact concat_meets ⟨_, ho, rfl⟩ ⟨_, ho2, rfl⟩ noFill_tuple_add seq_tuple_add PySem.F.slot_tuple_add PySem.F.entry_tuple_add (PySem.F.args_tuple_add_2 _ _)
   (tuple_addW0 a b _ its2.toArray n n2 dd dd2 sl sl2 (by simp)) ⟨ho, ho2, ⟨.ref b, H, I, rfl, q⟩⟩
noncomputable def b6d : R3 := fun x y M Q => match x, y with
 | .int i, .int j => Q (.int (i + j)) M
 | .str a, .str b => a.length + b.length ≤ sizeLine ∧ Q (.str (a ++ b)) M
 | .tup a, .tup b => a.length + b.length ≤ sizeLine ∧ Q (.tup (a ++ b)) M
 | .adr p, .adr q => match M p, M q with
   | some (.lst a), some (.lst b) => a.length + b.length ≤ sizeLine ∧ ∀ r, M r = none → Q (.adr r) (updM M r (.lst (a ++ b)))
   | _, _ => False
 | _, _ => False
theorem a0A : OpR3 X (binaryOp .Add) b6d := by
 intro pins s σ H x y v u Q2 I rx ry q
 obtain ⟨a, b, M, Q, r1, r2, hh, q, en⟩ := q
 unfold b6d at q
 split at q
 ·obtain rfl := a0z r1
  obtain rfl := a0z r2
  exact b8n pins s σ H _ _ v u Q2 I rx ry ⟨_, _, rfl, rfl, en _ _ M H Kp.refl hh a0U q⟩
 ·obtain rfl := a3p r1
  obtain rfl := a3p r2
  exact b1w pins s σ H _ _ v u Q2 I rx ry ⟨_, _, rfl, rfl, q.1, en _ _ M H Kp.refl hh a7I q.2⟩
 ·rename_i ts us
  obtain ⟨p, xs, rfl, h1, h2⟩ := a1n r1
  obtain ⟨p', ys, rfl, g1, g2⟩ := a1n r2
  have l1 := h2.length
  have l2 := g2.length
  by_cases hx : xs = []
  ·subst hx
   have ht : ts = [] := List.eq_nil_of_length_eq_zero (by rw [← l1]; rfl)
   subst ht
   exact b4w pins s σ H _ _ v u Q2 I rx ry ⟨_, _, ys, rfl, rfl, h1, g1, en _ _ M H Kp.refl hh (a2F g1 g2) q.2⟩
  ·refine b6B pins s σ H _ _ v u Q2 I rx ry ⟨_, _, xs, ys, rfl, rfl, h1, g1, hx, by rw [l1, l2]; exact q.1, fun hy => ?_, fun hy r hr => ?_⟩
   ·subst hy
    have ht : us = [] := List.eq_nil_of_length_eq_zero (by rw [← l2]; rfl)
    subst ht
    have q2 := q.2
    rw [List.append_nil] at q2
    exact en _ _ M H Kp.refl hh (a2F h1 h2) q2
   ·refine en _ _ M _ (Kp.new hr) (hh.keep hr) (a2F (SqT.of a0O) ?_) q.2
    exact Reps.kp (Kp.new hr) _ _ (h2.append g2)
 ·rename_i p p'
  obtain rfl := a0I r1
  obtain rfl := a0I r2
  split at q
  ·rename_i ts us e1 e2
   obtain ⟨xs, h1, h2⟩ := hh _ _ e1
   obtain ⟨ys, g1, g2⟩ := hh _ _ e2
   refine b8m pins s σ H _ _ v u Q2 I rx ry ⟨_, _, xs, ys, rfl, rfl, h1, g1, by rw [h2.length, g2.length]; exact q.1, fun r hr => ?_⟩
   exact en _ _ _ _ (Kp.new hr) (hh.newL hr (h2.append g2)) a2G (q.2 r (hh.free hr))
  ·exact q.elim
 ·exact q.elim
end
theorem a5N : fillsNumberSlot (.type "tuple") "mul" = pure false :=
 PySem.fillsNumberSlot_seq (id := "tuple.__mul__") (r := some (.builtin "tuple.__rmul__")) F.slot_tuple_mul.lookup (by decide +kernel) F.slot_tuple_rmul.lookup (by decide +kernel)
theorem a8G : seqRepeat? (.type "tuple") = pure (some (.builtin "tuple.__mul__")) := by
 unfold seqRepeat?
 rw [PySem.seqSlot_of (T := "tuple") (name := "__mul__") (id := "tuple.__mul__") F.slot_tuple_mul.lookup (by decide +kernel), PySem.seqSlot_of (T := "tuple") (name := "__rmul__") (id := "tuple.__rmul__") F.slot_tuple_rmul.lookup (by decide +kernel)]
 rfl
section
variable (l : Addr) (items : Array Value) (n : Nat) (x : Int) (u : Tok) (dd : Option Addr) (sl : Array (Option Value))
theorem a6V : Meets (Builtin.«int.__rmul__» ⟨[.int x u, .ref l], []⟩) (fun _ R s => s.heap.get? l = some { cls := .type "tuple", dict := dd, data := .seq items n, slots := sl } ∧ R (.ok (.ret Value.notImplemented)) s) :=
 .of_wp fun prog w A R s h => by obtain ⟨hp, g, d, tk, os⟩ := s; obtain ⟨hl, h⟩ := h; wp_walk; exact ⟨_, rfl, h⟩
theorem a9B (h0 : -(2 ^ 63) ≤ x) (h1 : x < 2 ^ 63) (hc : (items.isEmpty || x == 1) = true) :
  Meets (Builtin.«tuple.__mul__» ⟨[.ref l, .int x u], []⟩) (fun _ R s => s.heap.get? l = some { cls := .type "tuple", dict := dd, data := .seq items n, slots := sl } ∧ R (.ok (.ret (Value.ref l))) s) :=
 .of_wp fun prog w A R s h => by
  obtain ⟨hp, g, d, tk, os⟩ := s; obtain ⟨hl, h⟩ := h
  have hb : ¬ (decide (x < -2 ^ 63) || decide (x ≥ 2 ^ 63)) = true := by simp; lia
  wp_walk
  rw [if_neg hb]
  wp_walk
  first | exact ⟨_, rfl, h⟩ | (rw [if_pos hc]; wp_walk; exact ⟨_, rfl, h⟩)
theorem a9A (h0 : -(2 ^ 63) ≤ x) (h1 : x < 2 ^ 63) (hc : ¬ (items.isEmpty || x == 1) = true) (hn : (decide (x ≤ 0) || items.isEmpty) = true) :
  Meets (Builtin.«tuple.__mul__» ⟨[.ref l, .int x u], []⟩) (fun _ R s => s.heap.get? l = some { cls := .type "tuple", dict := dd, data := .seq items n, slots := sl } ∧ R (.ok (.ret (Value.ref s.heap.objs.size))) { s with heap := s.heap.push { cls := .type "tuple", data := .seq #[] }, toks := s.toks }) :=
 .of_wp fun prog w A R s h => by
  obtain ⟨hp, g, d, tk, os⟩ := s; obtain ⟨hl, h⟩ := h
  have hb : ¬ (decide (x < -2 ^ 63) || decide (x ≥ 2 ^ 63)) = true := by simp; lia
  wp_walk
  rw [if_neg hb]
  wp_walk
  first | exact ⟨_, rfl, h⟩ | (rw [if_neg hc, if_pos hn]; wp_walk; exact ⟨_, rfl, h⟩)
theorem a9z (h0 : -(2 ^ 63) ≤ x) (h1 : x < 2 ^ 63) (hc : ¬ (items.isEmpty || x == 1) = true) (hn : ¬ (decide (x ≤ 0) || items.isEmpty) = true) (hm : ¬ items.size * x > (2 ^ 63 - 1) / 8) (hz : ¬ Builtin.Tuple.tupleTooMany (items.size * x) = true) (hf : sizeOk (.seq (List.foldl (fun x1 x2 => x1 ++ x2) #[] (List.replicate x.toNat items)))) :
  Meets (Builtin.«tuple.__mul__» ⟨[.ref l, .int x u], []⟩) (fun _ R s => s.heap.get? l = some { cls := .type "tuple", dict := dd, data := .seq items n, slots := sl } ∧ R (.ok (.ret (Value.ref s.heap.objs.size))) { s with heap := s.heap.push { cls := .type "tuple", data := .seq (List.foldl (fun x1 x2 => x1 ++ x2) #[] (List.replicate x.toNat items)) }, toks := s.toks }) :=
 .of_wp fun prog w A R s h => by
  obtain ⟨hp, g, d, tk, os⟩ := s; obtain ⟨hl, h⟩ := h
  have hb : ¬ (decide (x < -2 ^ 63) || decide (x ≥ 2 ^ 63)) = true := by simp; lia
  wp_walk
  rw [if_neg hb]
  wp_walk
  rw [if_neg hm]
  wp_walk
  first | exact ⟨_, rfl, h⟩ | (rw [if_neg (Nat.not_lt.mpr hf)]; wp_walk; exact ⟨_, rfl, h⟩)
end
section
variable {X : Cx}
noncomputable def b9h (K : PySem.W.Frag) : R2 := fun x y H Q => ∃ a k xs, x = .ref a ∧ y = .int k ∧ SqT K H a xs ∧ -(2 ^ 63) ≤ k ∧ k < 2 ^ 63 ∧ xs.length * k.toNat ≤ sizeLine ∧
 ∀ p H', SqT K H' p (List.replicate k.toNat xs).flatten → (H' = H ∨ H p = none ∧ H' = upd H p (.tup (List.replicate k.toNat xs).flatten)) → Q (.ref p) H'
theorem a7p (its : List Value) (m : Nat) : List.foldl (fun x1 x2 => x1 ++ x2) #[] (List.replicate m its.toArray) = (List.replicate m its).flatten.toArray := by
 have := a6A its m []
 rw [List.nil_append] at this
 exact this
theorem b6z : OpR X (binaryOp .Mult) (b9h X.K) := by
 intro pins s σ H x y v u Q I rx ry h
 obtain ⟨a, k, xs, rfl, rfl, hx, h1, h2, hz, q⟩ := h
 cases rx
 obtain ⟨t, rfl⟩ := ry
 obtain ⟨its, r, p, hl⟩ := I.tuple hx
 have hlen := r.length
 obtain ⟨⟨cls, dd, data, sl⟩, ho, hc, n, hd⟩ := id p
 simp only at hc hd
 subst hc hd
 refine wpAny_binaryOp_repeat_ref (T := "tuple") (U := "int") (by decide) ⟨_, ho, rfl⟩ (fun s' => typeIs_int s' k t) a5N F.fills_int_mul F.slot_int_rmul a8G F.slot_int_index.lookup
  (call_meets F.slot_int_rmul (typeIs_int s k t) F.entry_int_rmul (F.args_int_rmul_2 _ _) (a6V a its.toArray n k t dd sl) ⟨ho, rfl, ⟨_, ho, rfl⟩, ?_⟩)
 by_cases hc : (its.toArray.isEmpty || k == 1) = true
 ·refine call_meets F.slot_tuple_mul ⟨_, ho, rfl⟩ F.entry_tuple_mul (F.args_tuple_mul_2 _ _) (a9B a its.toArray n k t dd sl h1 h2 hc) ⟨ho, ?_⟩
  have e : (List.replicate k.toNat xs).flatten = xs := by
   simp only [Bool.or_eq_true, beq_iff_eq] at hc
   rcases hc with hc | hc
   ·have : its = [] := by simpa using hc
    subst this
    cases r
    simp
   ·subst hc
    simp
  exact ⟨.ref a, H, I, rfl, q a H (by rw [e]; exact hx) (.inl rfl)⟩
 ·by_cases hn : (decide (k ≤ 0) || its.toArray.isEmpty) = true
  ·refine call_meets F.slot_tuple_mul ⟨_, ho, rfl⟩ F.entry_tuple_mul (F.args_tuple_mul_2 _ _) (a9A a its.toArray n k t dd sl h1 h2 hc hn) ⟨ho, ?_⟩
   have hk : k.toNat = 0 := by
    simp only [Bool.or_eq_true, decide_eq_true_eq] at hn hc
    rcases hn with hn | hn
    ·lia
    ·exact absurd (.inl hn) hc
   have e : (List.replicate k.toNat xs).flatten = [] := by rw [hk]; rfl
   refine ⟨.ref s.heap.objs.size, _, I.laid (t' := s.toks) (o := .tup []) (fun b ob q => Heap.get?_push_of_some _ q) (Nat.le_refl _) ?_, rfl, q _ _ ?_ (.inr ⟨I.hok.fresh (Nat.le_refl _), by rw [e]⟩)⟩
   ·exact ⟨Nat.zero_le _, [], .nil, a3z.new _ _⟩
   ·rw [e]; exact SqT.of a0O
  ·have hm : (its.toArray.size : Int) * k ≤ sizeLine := by
    have : its.toArray.size = xs.length := by rw [hlen]; simp
    rw [this]
    have hk : (0 : Int) ≤ k := by
     simp only [Bool.or_eq_true, decide_eq_true_eq] at hn
     lia
    have e2 : k = ((k.toNat : Nat) : Int) := by lia
    rw [e2, ← Int.natCast_mul]
    exact_mod_cast hz
   have hz2 : ((List.replicate k.toNat its).flatten).length ≤ sizeLine := by rw [b0c, Nat.mul_comm, ← hlen]; exact hz
   refine call_meets F.slot_tuple_mul ⟨_, ho, rfl⟩ F.entry_tuple_mul (F.args_tuple_mul_2 _ _) (a9z a its.toArray n k t dd sl h1 h2 hc hn ?_ ?_ ?_) ⟨ho, ?_⟩
   ·have : (sizeLine : Int) ≤ (2 ^ 63 - 1) / 8 := by decide
    lia
   ·unfold Builtin.Tuple.tupleTooMany
    simp only [decide_eq_true_eq]
    lia
   ·rw [a7p]
    show (List.replicate k.toNat its).flatten.toArray.size ≤ sizeLine
    rw [List.size_toArray]
    exact hz2
   ·rw [a7p]
    refine ⟨.ref s.heap.objs.size, _, I.laid (t' := s.toks) (o := .tup (List.replicate k.toNat xs).flatten) (fun b ob q => Heap.get?_push_of_some _ q) (Nat.le_refl _) ?_, rfl, q _ _ (SqT.of a0O) (.inr ⟨I.hok.fresh (Nat.le_refl _), rfl⟩)⟩
    exact ⟨by rw [b0c, Nat.mul_comm]; exact hz, _, r.rep k.toNat, a3z.new _ _⟩
end
theorem Reps.atI {K : PySem.W.Frag} {H : Hp} {vs : List V} {ts : List T} {i : Int} {t : T} (h : Reps K H vs ts) (e : atI ts i = some t) : ∃ v, L2.atI vs i = some v ∧ Rep K H v t := by
 unfold L2.atI at e ⊢
 rw [h.length]
 cases q : ixN ts.length i with
 | none => rw [q] at e; cases e
 | some j => rw [q] at e; exact h.get e
section
variable {X : Cx} {a b c e : Expr} {es : List Expr} {ta tb tc te : TE3} {pos : Pos}
noncomputable def rIx3 : R3 := fun x y M Q => match x, y with
 | .tup ts, .int i => (match atI ts i with | some t => Q t M | none => False)
 | .rd ts, .int i => (match atI ts i with | some t => Q t M | none => False)
 | .adr p, .int i => (match M p with | some (.lst ts) => (match atI ts i with | some t => Q t M | none => False) | _ => False)
 | .str z, .int i => z.length ≤ sizeLine ∧ (match atI z.cps.toList i with | some c => Q (.str ⟨#[c]⟩) M | none => False)
 | _, _ => False
theorem a7k {K : PySem.W.Frag} {H : Hp} {v : V} {ts : List T} (r : Rep K H v (.rd ts)) : ∃ a xs, v = .ref a ∧ FzL K H a xs ∧ Reps K H xs ts := by unfold Rep at r; exact r
theorem ix3 : IxR3 X rIx3 := by
 intro value slice pins s σ H x y v u Q2 I rx ry q hs
 obtain ⟨a, b, M, Q, r1, r2, hh, q, en⟩ := q
 unfold rIx3 at q
 split at q
 ·obtain rfl := a0z r2
  obtain ⟨p, xs, rfl, h1, h2⟩ := a1n r1
  split at q
  ·rename_i t e
   obtain ⟨w, ew, rw'⟩ := h2.atI e
   exact b8v value slice pins s σ H _ _ v u Q2 I rx ry ⟨_, _, _, w, rfl, rfl, h1, ew, en _ _ M H Kp.refl hh rw' q⟩ hs
  ·exact q.elim
 ·obtain rfl := a0z r2
  obtain ⟨p, xs, rfl, h1, h2⟩ := a7k r1
  split at q
  ·rename_i t e
   obtain ⟨w, ew, rw'⟩ := h2.atI e
   exact b3d value slice pins s σ H _ _ v u Q2 I rx ry ⟨_, _, _, w, rfl, rfl, h1.sq, ew, en _ _ M H Kp.refl hh rw' q⟩ hs
  ·exact q.elim
 ·obtain rfl := a0z r2
  obtain rfl := a0I r1
  split at q
  ·rename_i ts e0
   obtain ⟨xs, h1, h2⟩ := hh _ _ e0
   split at q
   ·rename_i t e
    obtain ⟨w, ew, rw'⟩ := h2.atI e
    exact b3d value slice pins s σ H _ _ v u Q2 I rx ry ⟨_, _, _, w, rfl, rfl, SqL.of h1, ew, en _ _ M H Kp.refl hh rw' q⟩ hs
   ·exact q.elim
  ·exact q.elim
 ·obtain rfl := a0z r2
  obtain rfl := a3p r1
  obtain ⟨hz, q⟩ := q
  split at q
  ·rename_i c e
   exact b8w value slice pins s σ H _ _ v u Q2 I rx ry ⟨_, _, c, rfl, rfl, hz, e, en _ _ M H Kp.refl hh a7I q⟩ hs
  ·exact q.elim
 ·exact q.elim
theorem h_ix (ha : HE X a ta) (hb : HE X b tb) (hs : b3T b := by intro _ _; rfl) : HE X (.Subscript a b pos) (tOp3 rIx3 ta tb) := fun ρ M Q h =>
 (b9p ix3 (ha.d (ρ := ρ)) (hb.d (ρ := ρ)) hs).imp fun σ H Q2 b => dOp h b
noncomputable def b5X : R3 := fun x y M Q => match x, y with
 | .int i, .int j => CMul i j ∧ Q (.int (i * j)) M
 | .adr p, .int k => (match M p with
   | some (.lst ts) => -(2 ^ 63) ≤ k ∧ k < 2 ^ 63 ∧ ts.length * k.toNat ≤ sizeLine ∧ ∀ r, M r = none → Q (.adr r) (updM M r (.lst (List.replicate k.toNat ts).flatten))
   | _ => False)
 | .tup ts, .int k => -(2 ^ 63) ≤ k ∧ k < 2 ^ 63 ∧ ts.length * k.toNat ≤ sizeLine ∧ Q (.tup (List.replicate k.toNat ts).flatten) M
 | _, _ => False
theorem Reps.rep {K : PySem.W.Frag} {H : Hp} {vs : List V} {ts : List T} (h : Reps K H vs ts) : ∀ k : Nat, Reps K H (List.replicate k vs).flatten (List.replicate k ts).flatten
 | 0 => .nil
 | k + 1 => by
   rw [List.replicate_succ, List.replicate_succ, List.flatten_cons, List.flatten_cons]
   exact Reps.append h (Reps.rep h k)
theorem a0V : OpR3 X (binaryOp .Mult) b5X := by
 intro pins s σ H x y v u Q2 I rx ry q
 obtain ⟨a, b, M, Q, r1, r2, hh, q, en⟩ := q
 unfold b5X at q
 split at q
 ·obtain rfl := a0z r1
  obtain rfl := a0z r2
  exact b8j pins s σ H _ _ v u Q2 I rx ry ⟨_, _, rfl, rfl, q.1, en _ _ M H Kp.refl hh a0U q.2⟩
 ·obtain rfl := a0I r1
  obtain rfl := a0z r2
  split at q
  ·rename_i ts e0
   obtain ⟨xs, h1, h2⟩ := hh _ _ e0
   obtain ⟨q1, q2, q3, q4⟩ := q
   refine b8h pins s σ H _ _ v u Q2 I rx ry ⟨_, _, xs, rfl, rfl, h1, q1, q2, by rw [h2.length]; exact q3, fun r hr => ?_⟩
   exact en _ _ _ _ (Kp.new hr) (hh.newL hr (h2.rep _)) a2G (q4 r (hh.free hr))
  ·exact q.elim
 ·obtain ⟨l, xs, rfl, g1, g2⟩ := a1n r1
  obtain rfl := a0z r2
  obtain ⟨q1, q2, q3, q4⟩ := q
  refine b6z pins s σ H _ _ v u Q2 I rx ry ⟨_, _, xs, rfl, rfl, g1, q1, q2, by rw [g2.length]; exact q3, fun r H' h' c => ?_⟩
  rcases c with rfl | ⟨c1, rfl⟩
  ·exact en _ _ _ _ Kp.refl hh (a2F h' (g2.rep _)) q4
  ·exact en _ _ _ _ (Kp.new c1) (hh.keep c1) (a2F h' (Reps.kp (Kp.new c1) _ _ (g2.rep _))) q4
 ·exact q.elim
noncomputable def a9N (g : Int → Int → Bool) : R3 := fun x y M Q => match x, y with
 | .int i, .int j => Q (.bl (g i j)) M
 | _, _ => False
theorem a7T {f : Value → Value → Sem Value} {g : Int → Int → Bool} (h : OpR X f (rI0 fun i j => .bl (g i j))) : OpR3 X f (a9N g) := by
 intro pins s σ H x y v u Q2 I rx ry q
 obtain ⟨a, b, M, Q, r1, r2, hh, q, en⟩ := q
 unfold a9N at q
 split at q
 ·obtain rfl := a0z r1
  obtain rfl := a0z r2
  exact h pins s σ H _ _ v u Q2 I rx ry ⟨_, _, rfl, rfl, en _ _ M H Kp.refl hh a2L q⟩
 ·exact q.elim
noncomputable def rLt3 : R3 := a9N fun i j => decide (i < j)
noncomputable def rLe3 : R3 := a9N fun i j => decide (i ≤ j)
noncomputable def rGt3 : R3 := a9N fun i j => decide (j < i)
noncomputable def rGe3 : R3 := a9N fun i j => decide (j ≤ i)
theorem a5a : OpR3 X (compareOp .Lt) rLt3 := a7T b9t
theorem a5b : OpR3 X (compareOp .LtE) rLe3 := a7T b9u
theorem a3v : OpR3 X (compareOp .Gt) rGt3 := a7T b9v
theorem b5q : OpR3 X (compareOp .GtE) rGe3 := a7T b9w
noncomputable def rEqv (g : Bool → Bool) : R3 := fun x y M Q => match x, y with
 | .adr p, .adr q => (match M p, M q with
   | some (.lst a), some (.lst b) => a2a a = true ∧ a2a b = true ∧ a4M a ≤ 30 ∧ Q (.bl (g (eqTs a b))) M
   | _, _ => False)
 | x, y => a0G x = true ∧ a0G y = true ∧ depT x ≤ 30 ∧ Q (.bl (g (eqT x y))) M
noncomputable def rEq3 : R3 := rEqv id
noncomputable def rNe3 : R3 := rEqv not
theorem a8S {pins : List (Addr × Obj)} {σ : St} {H : Hp} {s : Shared} (I : Inv X pins σ H s) (hu : X.A.units + 64 < cLine) {p p' : Addr} {xs ys : List V} {ts us : List T} (h1 : H p = some (.lst xs)) (h2 : Reps X.K H xs ts) (g1 : H p' = some (.lst ys)) (g2 : Reps X.K H ys us)
  (px : a2a ts = true) (py : a2a us = true) (hd : a4M ts ≤ 30) :
  SeqAt.RcAt X.A s (.ref p) (.ref p') (eqTs ts us) ∧ SeqAt.RcNeAt X.A s (.ref p) (.ref p') (!(eqTs ts us)) := by
 obtain ⟨its, r1, pl, _⟩ := I.list (SqL.of h1)
 obtain ⟨its2, r2, pl2, _⟩ := I.list (SqL.of g1)
 have l1 := h2.length
 have l2 := g2.length
 have m1 := r1.length
 have m2 := r2.length
 have hu' : X.A.units < cLine := by lia
 by_cases hl : its.length = its2.length
 ·have he := b0K (X := X) (A := X.A.in1) (s := s) (n := 30) px py hd h2 g2 r1 r2 fun x y v u a b hx px py rx ry ra rb => (b3t I 30 X.A.in1 x y v u a b hx (by show X.A.units + 1 + 30 + 1 < cLine; lia) px py rx ry ra rb).1
  have hsz : its.toArray.size = its2.toArray.size := by simpa using hl
  have rc := SeqAt.RcAt.lists (A := X.A) pl.isList pl2.isList hsz hu' he
  have rn := SeqAt.RcNeAt.lists (A := X.A) pl.isList pl2.isList hsz hu' he
  have ee : (List.range its.toArray.size).all (eqJ ts us) = eqTs ts us := by
   rw [← a4q, List.size_toArray, ← l1, ← l2, m1, m2, ← hl]
   simp
  rw [ee] at rc rn
  exact ⟨rc, rn⟩
 ·have hne : eqTs ts us = false := by
   cases q : eqTs ts us with
   | false => rfl
   | true => have := b0Q q; lia
  have hsz : (its.toArray.size != its2.toArray.size) = true := by simpa using hl
  rw [hne]
  exact ⟨SeqAt.RcAt.lists_lengths pl.isList pl2.isList hsz hu', SeqAt.RcNeAt.lists_lengths pl.isList pl2.isList hsz hu'⟩
theorem a0Y (hu : X.A.units + 64 < cLine) : OpR3 X (compareOp .Eq) rEq3 := by
 intro pins s σ H x y v u Q2 I rx ry q
 obtain ⟨a, b, M, Q, r1, r2, hh, q, en⟩ := q
 unfold rEq3 rEqv at q
 split at q
 ·rename_i p p'
  split at q
  ·rename_i ts us e1 e2
   obtain ⟨xs, h1, h2⟩ := hh _ _ e1
   obtain ⟨ys, g1, g2⟩ := hh _ _ e2
   obtain rfl := a0I r1
   obtain rfl := a0I r2
   cases rx
   cases ry
   exact (a8S I hu h1 h2 g1 g2 q.1 q.2.1 q.2.2.1).1 _ _ _ _ ⟨.bl _, H, I, rfl, en _ _ M H Kp.refl hh a2L q.2.2.2⟩
  ·exact q.elim
 ·obtain ⟨q1, q2, q3, q⟩ := q
  exact (b3t I 30 X.A a b x y v u q3 (by lia) q1 q2 r1 r2 rx ry).2.1 _ _ _ _ ⟨.bl _, H, I, rfl, en _ _ M H Kp.refl hh a2L q⟩
theorem a3U (hu : X.A.units + 64 < cLine) : OpR3 X (compareOp .NotEq) rNe3 := by
 intro pins s σ H x y v u Q2 I rx ry q
 obtain ⟨a, b, M, Q, r1, r2, hh, q, en⟩ := q
 unfold rNe3 rEqv at q
 split at q
 ·rename_i p p'
  split at q
  ·rename_i ts us e1 e2
   obtain ⟨xs, h1, h2⟩ := hh _ _ e1
   obtain ⟨ys, g1, g2⟩ := hh _ _ e2
   obtain rfl := a0I r1
   obtain rfl := a0I r2
   cases rx
   cases ry
   exact (a8S I hu h1 h2 g1 g2 q.1 q.2.1 q.2.2.1).2 _ _ _ _ ⟨.bl _, H, I, rfl, en _ _ M H Kp.refl hh a2L q.2.2.2⟩
  ·exact q.elim
 ·obtain ⟨q1, q2, q3, q⟩ := q
  exact (b3t I 30 X.A a b x y v u q3 (by lia) q1 q2 r1 r2 rx ry).2.2 _ _ _ _ ⟨.bl _, H, I, rfl, en _ _ M H Kp.refl hh a2L q⟩
theorem a5w {op : CmpOp} {r : R3} (ho : OpR3 X (compareOp op) r) (ha : HE X a ta) (hb : HE X b tb) (hm : behindInMarks op b = false) : HE X (.Compare a [op] [b] pos) (tOp3 r ta tb) := fun ρ M Q h =>
 (b6w ho (ha.d (ρ := ρ)) (hb.d (ρ := ρ)) hm).imp fun σ H Q2 b => dOp h b
noncomputable def b2e (t : TE3) : TT3 := fun ρ M Q => t ρ M fun x M1 => match x with
 | .bl k => Q k M1
 | _ => False
theorem b0R {K : PySem.W.Frag} {H : Hp} {Q : Bool → MH → Prop} {Q2 : Bool → Hp → Prop} (en : EndT K H Q Q2) : EndE K H (fun x M1 => match x with | .bl k => Q k M1 | _ => False) (fun x H' => ∃ k, x = .bl k ∧ Q2 k H') := by
 intro t v M' H' k h r q
 split at q
 ·obtain rfl := a3m r
  exact ⟨_, rfl, en _ M' H' k h q⟩
 ·exact q.elim
theorem a0t {op : CmpOp} {r : R3} (ho : OpR3 X (compareOp op) r) (ha : HE X a ta) (hb : HE X b tb) (hm : behindInMarks op b = false) : HT X (.Compare a [op] [b] pos) (b2e (tOp3 r ta tb)) := fun ρ M Q h =>
 (b6i ho (ha.d (ρ := ρ)) (hb.d (ρ := ρ)) hm).imp fun σ H Q2 ⟨hr, hh, en⟩ => dOp (ta := ta) (tb := tb) (r := r) h ⟨hr, hh, b0R en⟩
noncomputable def a7A (r r' : R3) (ta tb tc : TE3) : TE3 := fun ρ M Q => ta ρ M fun x M1 => tb ρ M1 fun y M2 => r x y M2 fun z M3 => match z with
 | .bl k => (if k = true then tc ρ M3 fun w M4 => r' y w M4 Q else Q (.bl false) M3)
 | _ => False
theorem b5w {ρ : En} {M : MH} {Q : VK3} {r r' : R3} (h : a7A r r' ta tb tc ρ M Q) {σ : St} {H : Hp} {Q2 : VK} (b : bE X.K ρ M Q σ H Q2) : b2g (dR X.K r) (dR X.K r') (dE X.K ρ ta) (dE X.K ρ tb) (dE X.K ρ tc) σ H Q2 := by
 obtain ⟨hr, hh, en⟩ := b
 refine ⟨M, _, h, hr, hh, fun t v M1 H1 k1 h1 r1 q1 => ⟨M1, _, q1, hr.kp k1, h1, fun t2 v2 M2 H2 k2 h2 r2 q2 => ⟨t, t2, M2, _, Rep.kp k2 _ _ r1, r2, h2, q2, fun z v3 M3 H3 k3 h3 r3 q3 => ?_⟩⟩⟩
 split at q3
 ·rename_i k
  obtain rfl := a3m r3
  refine ⟨k, rfl, ?_⟩
  have kk := k1.trans (k2.trans k3)
  split
  ·rename_i hk
   rw [if_pos hk] at q3
   exact ⟨M3, _, q3, hr.kp kk, h3, fun t4 v4 M4 H4 k4 h4 r4 q4 => ⟨t2, t4, M4, Q, Rep.kp (k3.trans k4) _ _ r2, r4, h4, q4, en.kp (kk.trans k4)⟩⟩
  ·rename_i hk
   rw [if_neg hk] at q3
   exact en _ _ M3 H3 kk h3 a2L q3
 ·exact q3.elim
theorem b3l {op op' : CmpOp} {r r' : R3} (ho : OpR3 X (compareOp op) r) (ho' : OpR3 X (compareOp op') r') (ha : HE X a ta) (hb : HE X b tb) (hc : HE X c tc)
  (hm : lastMarks [op, op'] [b, c] = false := by with_unfolding_all rfl) : HE X (.Compare a [op, op'] [b, c] pos) (a7A r r' ta tb tc) := fun ρ M Q h =>
 (b4r ho ho' (ha.d (ρ := ρ)) (hb.d (ρ := ρ)) (hc.d (ρ := ρ)) hm).imp fun σ H Q2 b => b5w h b
theorem b0O {op op' : CmpOp} {r r' : R3} (ho : OpR3 X (compareOp op) r) (ho' : OpR3 X (compareOp op') r') (ha : HE X a ta) (hb : HE X b tb) (hc : HE X c tc)
  (hm : lastMarks [op, op'] [b, c] = false := by with_unfolding_all rfl) : HT X (.Compare a [op, op'] [b, c] pos) (b2e (a7A r r' ta tb tc)) := fun ρ M Q h =>
 (b4m ho ho' (ha.d (ρ := ρ)) (hb.d (ρ := ρ)) (hc.d (ρ := ρ)) hm).imp fun σ H Q2 ⟨hr, hh, en⟩ => b5w (ta := ta) (tb := tb) (tc := tc) (r := r) (r' := r') h ⟨hr, hh, b0R en⟩
noncomputable def truT (M : MH) : T → Option Bool
 | .non => some false
 | .bl b => some b
 | .int i => some (i != 0)
 | .str y => if y.length ≤ sizeLine then some (decide (y.length ≠ 0)) else none
 | .tup ts => some (!ts.isEmpty)
 | .rd ts => some (!ts.isEmpty)
 | .dic _ _ => none
 | .adr p => match M p with
   | some (.lst ts) => some (!ts.isEmpty)
   | _ => none
noncomputable def b7l (te : TE3) : TT3 := fun ρ M Q => te ρ M fun x M1 => match truT M1 x with
 | some k => Q k M1
 | none => False
theorem a8o {K : PySem.W.Frag} {H : Hp} {xs : List V} {ts : List T} (h : Reps K H xs ts) : (!xs.isEmpty) = !ts.isEmpty := by
 have := h.length
 cases xs <;> cases ts <;> first | rfl | (simp at this)
theorem a5t (ha : HE X a ta) (he : ∀ whole, isTrue a X.env whole = (do let v ← whole; standAt a.pos; holding [v] (truthy v)) := by intro _; rfl) : HT X a (b7l ta) := fun ρ M Q h =>
 (b4l (ha.d (ρ := ρ)) he).imp fun σ H Q2 ⟨hr, hh, en⟩ => ⟨M, _, h, hr, hh, fun t v M1 H1 k1 h1 r1 q1 => by
  have fin : ∀ k, truT M1 t = some k → Q2 k H1 := fun k e => by
   have q : (match truT M1 t with | some k => Q k M1 | none => False) := q1
   rw [e] at q
   exact en k M1 H1 k1 h1 q
  cases t with
  | non => obtain rfl := a6s r1; exact ⟨false, rfl, fin _ rfl⟩
  | bl b => obtain rfl := a3m r1; exact ⟨b, rfl, fin _ rfl⟩
  | int i => obtain rfl := a0z r1; exact ⟨_, rfl, fin _ rfl⟩
  | str y =>
    obtain rfl := a3p r1
    by_cases hy : y.length ≤ sizeLine
    ·refine ⟨_, ⟨hy, rfl⟩, fin _ ?_⟩
     show (if y.length ≤ sizeLine then some (decide (y.length ≠ 0)) else none) = _
     rw [if_pos hy]
     congr 1
     by_cases h0 : y.length = 0
     ·rw [h0]; rfl
     ·have : ((y.length : Int) != 0) = true := by simpa using h0
      rw [this]; simpa using h0
    ·have q : (match truT M1 (.str y) with | some k => Q k M1 | none => False) := q1
     have e : truT M1 (.str y) = none := if_neg hy
     rw [e] at q
     exact q.elim
  | tup ts =>
    obtain ⟨p, xs, rfl, g1, g2⟩ := a1n r1
    exact ⟨!xs.isEmpty, .inr (.inl ⟨xs, g1, rfl⟩), fin _ (by rw [a8o g2]; rfl)⟩
  | rd ts =>
    obtain ⟨p, xs, rfl, g1, g2⟩ := a7k r1
    exact ⟨!xs.isEmpty, .inl ⟨xs, g1.sq, rfl⟩, fin _ (by rw [a8o g2]; rfl)⟩
  | dic ks ts =>
    have q : (match truT M1 (.dic ks ts) with | some k => Q k M1 | none => False) := q1
    exact q.elim
  | adr p =>
    obtain rfl := a0I r1
    cases e0 : M1 p with
    | none =>
      have q : (match truT M1 (.adr p) with | some k => Q k M1 | none => False) := q1
      have e : truT M1 (.adr p) = none := by show (match M1 p with | some (.lst ts) => some (!ts.isEmpty) | _ => none) = none; rw [e0]
      rw [e] at q
      exact q.elim
    | some o =>
      cases o with
      | lst ts =>
        obtain ⟨xs, g1, g2⟩ := h1 _ _ e0
        exact ⟨!xs.isEmpty, .inl ⟨xs, SqL.of g1, rfl⟩, fin _ (by show (match M1 p with | some (.lst ts) => some (!ts.isEmpty) | _ => none) = _; rw [e0, a8o g2])⟩
      | dk kvs =>
        have q : (match truT M1 (.adr p) with | some k => Q k M1 | none => False) := q1
        have e : truT M1 (.adr p) = none := by show (match M1 p with | some (.lst ts) => some (!ts.isEmpty) | _ => none) = none; rw [e0]
        rw [e] at q
        exact q.elim
      | dt kvs =>
        have q : (match truT M1 (.adr p) with | some k => Q k M1 | none => False) := q1
        have e : truT M1 (.adr p) = none := by show (match M1 p with | some (.lst ts) => some (!ts.isEmpty) | _ => none) = none; rw [e0]
        rw [e] at q
        exact q.elim
      | fz kvs =>
        have q : (match truT M1 (.adr p) with | some k => Q k M1 | none => False) := q1
        have e : truT M1 (.adr p) = none := by show (match M1 p with | some (.lst ts) => some (!ts.isEmpty) | _ => none) = none; rw [e0]
        rw [e] at q
        exact q.elim
      | fk kvs =>
        have q : (match truT M1 (.adr p) with | some k => Q k M1 | none => False) := q1
        have e : truT M1 (.adr p) = none := by show (match M1 p with | some (.lst ts) => some (!ts.isEmpty) | _ => none) = none; rw [e0]
        rw [e] at q
        exact q.elim⟩
end
section
variable {X : Cx} {a b c e : Expr} {es rest : List Expr} {ta tb tc te : TE3} {tA tB : TT3} {t : TA3} {pos : Pos}
noncomputable def HW (X : Cx) (e : Expr) (t : TT3) : Prop := ∀ ρ M Q, t ρ M Q → PW X e (bT X.K ρ M Q)
theorem HW.d {t : TT3} {ρ : En} (h : HW X e t) : PW X e (dT X.K ρ t) := fun wh pins s σ H Q I ⟨M, Q3, q, b⟩ => h ρ M Q3 q wh pins s σ H Q I b
theorem PW.imp {t t' : TT} (h : PW X e t) (f : ∀ σ H Q, t' σ H Q → t σ H Q) : PW X e t' := fun wh pins s σ H Q I q => h wh pins s σ H Q I (f σ H Q q)
theorem HW.ht {t : TT3} (h : HW X e t) : HT X e t := fun ρ M Q q => (h ρ M Q q).pt
noncomputable def b7x (t u : TT3) : TT3 := fun ρ M Q => t ρ M fun c M1 => if c = true then u ρ M1 Q else Q false M1
noncomputable def tOr3 (t u : TT3) : TT3 := fun ρ M Q => t ρ M fun c M1 => if c = true then Q true M1 else u ρ M1 Q
noncomputable def b7q (t : TT3) : TT3 := fun ρ M Q => t ρ M fun c M1 => Q (!c) M1
theorem b1M (ha : HT X a tA) : HT X (.UnaryOp .Not a pos) (b7q tA) := fun ρ M Q h =>
 (b7Q (ha.d (ρ := ρ))).imp fun σ H Q2 ⟨hr, hh, en⟩ => ⟨M, _, h, hr, hh, fun b M1 H1 k1 h1 q1 => en _ M1 H1 k1 h1 q1⟩
theorem a6Z (ha : HT X a tA) : HW X (.BoolOp .And [a] pos) tA := fun ρ M Q h => (b6f (ha.d (ρ := ρ))).imp fun σ H Q2 b => ⟨M, Q, h, b⟩
theorem a8w (ha : HT X a tA) : HW X (.BoolOp .Or [a] pos) tA := fun ρ M Q h => (b7O (ha.d (ρ := ρ))).imp fun σ H Q2 b => ⟨M, Q, h, b⟩
theorem a9y (ha : HT X a tA) (hb : HW X (.BoolOp .And (b :: rest) pos) tB) : HW X (.BoolOp .And (a :: b :: rest) pos) (b7x tA tB) := fun ρ M Q h =>
 (b7P (ha.d (ρ := ρ)) (hb.d (ρ := ρ))).imp fun σ H Q2 ⟨hr, hh, en⟩ => ⟨M, _, h, hr, hh, fun b M1 H1 k1 h1 q1 => by
  dsimp only at q1 ⊢
  split
  ·rename_i hb; rw [if_pos hb] at q1
   exact ⟨M1, Q, q1, hr.kp k1, h1, fun b' M2 H2 k2 => en b' M2 H2 (k1.trans k2)⟩
  ·rename_i hb; rw [if_neg hb] at q1
   exact en _ M1 H1 k1 h1 q1⟩
theorem w_or (ha : HT X a tA) (hb : HW X (.BoolOp .Or (b :: rest) pos) tB) : HW X (.BoolOp .Or (a :: b :: rest) pos) (tOr3 tA tB) := fun ρ M Q h =>
 (b9k (ha.d (ρ := ρ)) (hb.d (ρ := ρ))).imp fun σ H Q2 ⟨hr, hh, en⟩ => ⟨M, _, h, hr, hh, fun b M1 H1 k1 h1 q1 => by
  dsimp only at q1 ⊢
  split
  ·rename_i hb; rw [if_pos hb] at q1
   exact en _ M1 H1 k1 h1 q1
  ·rename_i hb; rw [if_neg hb] at q1
   exact ⟨M1, Q, q1, hr.kp k1, h1, fun b' M2 H2 k2 => en b' M2 H2 (k1.trans k2)⟩⟩
noncomputable def b5k (ta tb : TE3) : TE3 := fun ρ M Q => ta ρ M fun x M1 => match x with
 | .bl c => (if c = true then tb ρ M1 Q else Q (.bl false) M1)
 | _ => False
noncomputable def b7p (ta tb : TE3) : TE3 := fun ρ M Q => ta ρ M fun x M1 => match x with
 | .bl c => (if c = true then Q (.bl true) M1 else tb ρ M1 Q)
 | _ => False
theorem b4M {op} (ha : HE X a ta) : HE X (.BoolOp op [a] pos) ta := fun ρ M Q h => b8b (ha ρ M Q h)
theorem b6M (ha : HE X a ta) (hb : HE X (.BoolOp .And (b :: rest) pos) tb) : HE X (.BoolOp .And (a :: b :: rest) pos) (b5k ta tb) := fun ρ M Q h =>
 (b8f (ha.d (ρ := ρ)) (hb.d (ρ := ρ))).imp fun σ H Q2 ⟨hr, hh, en⟩ => ⟨M, _, h, hr, hh, fun x v M1 H1 k1 h1 r1 q1 => by
  dsimp only at q1 ⊢
  split at q1
  ·rename_i c
   obtain rfl := a3m r1
   refine ⟨c, rfl, ?_⟩
   split
   ·rename_i hc; rw [if_pos hc] at q1
    exact ⟨M1, Q, q1, hr.kp k1, h1, en.kp k1⟩
   ·rename_i hc; rw [if_neg hc] at q1
    exact en _ _ M1 H1 k1 h1 a2L q1
  ·exact q1.elim⟩
theorem h_or (ha : HE X a ta) (hb : HE X (.BoolOp .Or (b :: rest) pos) tb) : HE X (.BoolOp .Or (a :: b :: rest) pos) (b7p ta tb) := fun ρ M Q h =>
 (b9n (ha.d (ρ := ρ)) (hb.d (ρ := ρ))).imp fun σ H Q2 ⟨hr, hh, en⟩ => ⟨M, _, h, hr, hh, fun x v M1 H1 k1 h1 r1 q1 => by
  dsimp only at q1 ⊢
  split at q1
  ·rename_i c
   obtain rfl := a3m r1
   refine ⟨c, rfl, ?_⟩
   split
   ·rename_i hc; rw [if_pos hc] at q1
    exact en _ _ M1 H1 k1 h1 a2L q1
   ·rename_i hc; rw [if_neg hc] at q1
    exact ⟨M1, Q, q1, hr.kp k1, h1, en.kp k1⟩
  ·exact q1.elim⟩
noncomputable def b7r : TA3 := fun _ M Q => Q [] M
noncomputable def b2f (ta : TE3) (tr : TA3) : TA3 := fun ρ M Q => ta ρ M fun x M1 => tr ρ M1 fun xs M2 => Q (x :: xs) M2
theorem a0e : HA X [] b7r := fun ρ M Q h => b5n.imp fun σ H Q2 ⟨hr, hh, en⟩ => en [] [] M H Kp.refl hh .nil h
theorem a0a (ha : HE X a ta) (hr : HA X es t) (hs : starEach (a :: es) X.env = (false, eval a X.env) :: starEach es X.env := by rfl) : HA X (a :: es) (b2f ta t) := fun ρ M Q h =>
 (b2D (ha.d (ρ := ρ)) (hr.d (ρ := ρ)) hs).imp fun σ H Q2 ⟨hr, hh, en⟩ => ⟨M, _, h, hr, hh, fun x v M1 H1 k1 h1 r1 q1 => ⟨M1, _, q1, hr.kp k1, h1, fun ts vs M2 H2 k2 h2 r2 q2 =>
  en _ _ M2 H2 (k1.trans k2) h2 (.cons (Rep.kp k2 _ _ r1) r2) q2⟩⟩
noncomputable def b7k (t : TA3) : TE3 := fun ρ M Q => t ρ M fun xs M1 => xs.length ≤ sizeLine ∧ Q (.tup xs) M1
noncomputable def b7s (t : TA3) : TE3 := fun ρ M Q => t ρ M fun xs M1 => xs.length ≤ sizeLine ∧ ∀ p, M1 p = none → Q (.adr p) (updM M1 p (.lst xs))
theorem a1A {x1} (h : HA X es t) : HE X (.Tuple es x1 pos) (b7k t) := fun ρ M Q q =>
 (b2B (h.d (ρ := ρ))).imp fun σ H Q2 ⟨hr, hh, en⟩ => ⟨M, _, q, hr, hh, fun ts vs M1 H1 k1 h1 r1 q1 =>
  ⟨by rw [r1.length]; exact q1.1, fun p hp => en _ _ M1 _ (k1.trans (Kp.new hp)) (h1.keep hp) (a2F (SqT.of a0O) (Reps.kp (Kp.new hp) _ _ r1)) q1.2⟩⟩
theorem a2A (h : HA X es t) : HE X (.List es pos) (b7s t) := fun ρ M Q q =>
 (b8d (h.d (ρ := ρ))).imp fun σ H Q2 ⟨hr, hh, en⟩ => ⟨M, _, q, hr, hh, fun ts vs M1 H1 k1 h1 r1 q1 =>
  ⟨by rw [r1.length]; exact q1.1, fun p hp => en _ _ _ _ (k1.trans (Kp.new hp)) (h1.newL hp r1) a2G (q1.2 p (h1.free hp))⟩⟩
noncomputable abbrev Sp3 := List T → MH → VK3 → Prop
noncomputable def dSp (K : PySem.W.Frag) (sp : Sp3) : Sp := fun vs H Q2 _ => ∃ ts M Q, Reps K H vs ts ∧ HR K H M ∧ sp ts M Q ∧ EndE K H Q Q2
structure Df (P : Program) (w : World) (K : PySem.W.Frag) (mg : Str → Option Value) (base : Heap) (n : Nat) (x : Str) (ps : List Str) (sp : Sp3) : Prop where
 out : ∃ f fd, FnOk P w K mg base CX0 n f fd ps (dSp K sp) ∧ mg x = some (.ref f) ∧ PySem.W.keepIn K (.ref f) = true ∧ a1f K fd ps []
theorem Df.mono {P : Program} {w : World} {K : PySem.W.Frag} {mg : Str → Option Value} {base : Heap} {n m : Nat} {x : Str} {ps : List Str} {sp : Sp3} (D : Df P w K mg base n x ps sp) (h : n ≤ m) : Df P w K mg base m x ps sp := by
 obtain ⟨f, fd, F, a, b, c⟩ := D.out
 exact ⟨f, fd, F.mono h, a, b, c⟩
noncomputable def b5j (sp : Sp3) (t : TA3) : TE3 := fun ρ M Q => t ρ M fun ts M1 => sp ts M1 Q
theorem a0q {n : Nat} {x : Str} {ps : List Str} {sp : Sp3} {p : Pos} (D : Df X.prog X.w X.K X.mg X.base n x ps sp) (hr : Room n X.A) (ha : HA X (e :: es) t) (hg : Gl X x := by rfl) (hdb : (x == ("__debug__" : Str)) = false := by decide)
  (he : starEach (e :: es) X.env = (false, eval e X.env) :: starEach es X.env := by rfl) (hpl : (backTo pos (starEach es X.env)).any (·.1) = false := by rfl) :
  HE X (.Call (.Name x p) (e :: es) [] pos) (b5j sp t) := fun ρ M Q h => by
 obtain ⟨f, fd, F, hm, hk, hb⟩ := D.out
 exact (b6x F hr hg hm hk hb .nil b9s (ha.d (ρ := ρ)) hdb he hpl).imp fun σ H Q2 ⟨hr, hh, en⟩ => ⟨M, _, h, hr, hh, fun ts vs M1 H1 k1 h1 r1 q1 =>
  ⟨ts, M1, Q, by rw [List.append_nil]; exact r1, h1, q1, en.kp k1⟩⟩
noncomputable def tCB3 (r : List T → MH → VK3 → Prop) (t : TA3) : TE3 := fun ρ M Q => t ρ M fun ts M1 => r ts M1 Q
theorem a0o {x : Str} {id : String} {r : List T → MH → VK3 → Prop} {p : Pos} (hc : a5i X (.builtin id) r) (hm : X.mg x = none) (hv : bootBuiltins x = some (.builtin id)) (ha : HA X (e :: es) t) (hg : Gl X x := by rfl) (hn : x ≠ "__name__" := by decide) (hdb : (x == ("__debug__" : Str)) = false := by decide)
  (he : starEach (e :: es) X.env = (false, eval e X.env) :: starEach es X.env := by rfl) (hpl : (backTo pos (starEach es X.env)).any (·.1) = false := by rfl) : HE X (.Call (.Name x p) (e :: es) [] pos) (tCB3 r t) := fun ρ M Q h =>
 (b4s hc hg hm hv (ha.d (ρ := ρ)) hn hdb he hpl).imp fun σ H Q2 ⟨hr, hh, en⟩ => ⟨M, _, h, hr, hh, fun ts vs M1 H1 k1 h1 r1 q1 => ⟨ts, M1, Q, r1, h1, q1, en.kp k1⟩⟩
theorem a1S {x : Str} {ty : String} {r : List T → MH → VK3 → Prop} {p : Pos} (hc : a5i X (.type ty) r) (hm : X.mg x = none) (hv : bootBuiltins x = some (.type ty)) (ha : HA X (e :: es) t) (hg : Gl X x := by rfl) (hn : x ≠ "__name__" := by decide) (hdb : (x == ("__debug__" : Str)) = false := by decide)
  (he : starEach (e :: es) X.env = (false, eval e X.env) :: starEach es X.env := by rfl) (hpl : (backTo pos (starEach es X.env)).any (·.1) = false := by rfl) : HE X (.Call (.Name x p) (e :: es) [] pos) (tCB3 r t) := fun ρ M Q h =>
 (b2C hc hg hm hv (ha.d (ρ := ρ)) hn hdb he hpl).imp fun σ H Q2 ⟨hr, hh, en⟩ => ⟨M, _, h, hr, hh, fun ts vs M1 H1 k1 h1 r1 q1 => ⟨ts, M1, Q, r1, h1, q1, en.kp k1⟩⟩
end
section
variable {X : Cx}
theorem a2z {K : PySem.W.Frag} {H : Hp} {vs : List V} {x : T} (r : Reps K H vs [x]) : ∃ v, vs = [v] ∧ Rep K H v x := by
 unfold Reps at r
 obtain ⟨v, w, rfl, h, r⟩ := r
 unfold Reps at r
 subst r
 exact ⟨v, rfl, h⟩
theorem b5S {K : PySem.W.Frag} {H : Hp} {vs : List V} {x y : T} (r : Reps K H vs [x, y]) : ∃ v w, vs = [v, w] ∧ Rep K H v x ∧ Rep K H w y := by
 unfold Reps at r
 obtain ⟨v, r', rfl, h, r⟩ := r
 obtain ⟨w, rfl, h'⟩ := a2z r
 exact ⟨v, w, rfl, h, h'⟩
noncomputable def b5Y : List T → MH → VK3 → Prop := fun xs M Q => match xs with
 | [.tup ts] => Q (.int ts.length) M
 | [.rd ts] => Q (.int ts.length) M
 | [.adr p] => (match M p with | some (.lst ts) => Q (.int ts.length) M | _ => False)
 | [.str z] => z.length ≤ sizeLine ∧ Q (.int z.length) M
 | _ => False
theorem a0u : a5i X (.builtin "len") b5Y := by
 intro pins s σ H vs us Q2 I r h
 obtain ⟨xs, M, Q, rr, hh, q, en⟩ := h
 unfold b5Y at q
 split at q
 ·obtain ⟨v, rfl, r1⟩ := a2z rr
  obtain ⟨p, ys, rfl, g1, g2⟩ := a1n r1
  exact a4a pins s σ H _ us Q2 I r ⟨p, ys, rfl, .inr g1, by rw [g2.length]; exact en _ _ M H Kp.refl hh a0U q⟩
 ·obtain ⟨v, rfl, r1⟩ := a2z rr
  obtain ⟨p, ys, rfl, g1, g2⟩ := a7k r1
  exact a4a pins s σ H _ us Q2 I r ⟨p, ys, rfl, .inl g1.sq, by rw [g2.length]; exact en _ _ M H Kp.refl hh a0U q⟩
 ·obtain ⟨v, rfl, r1⟩ := a2z rr
  obtain rfl := a0I r1
  split at q
  ·rename_i ts e0
   obtain ⟨ys, g1, g2⟩ := hh _ _ e0
   exact a4a pins s σ H _ us Q2 I r ⟨_, ys, rfl, .inl (SqL.of g1), by rw [g2.length]; exact en _ _ M H Kp.refl hh a0U q⟩
  ·exact q.elim
 ·obtain ⟨v, rfl, r1⟩ := a2z rr
  obtain rfl := a3p r1
  exact a9q pins s σ H _ us Q2 I r ⟨_, rfl, q.1, en _ _ M H Kp.refl hh a0U q.2⟩
 ·exact q.elim
noncomputable def b6e : List T → MH → VK3 → Prop := fun xs M Q => match xs with
 | [.int i] => Q (.int i.natAbs) M
 | _ => False
theorem a0R : a5i X (.builtin "abs") b6e := by
 intro pins s σ H vs us Q2 I r h
 obtain ⟨xs, M, Q, rr, hh, q, en⟩ := h
 unfold b6e at q
 split at q
 ·rename_i i
  obtain ⟨v, rfl, r1⟩ := a2z rr
  obtain rfl := a0z r1
  refine b4Y pins s σ H _ us Q2 I r ⟨_, rfl, en _ _ M H Kp.refl hh ?_ q⟩
  have e : (if i < 0 then -i else i) = (i.natAbs : Int) := by split <;> lia
  rw [e]; exact a0U
 ·exact q.elim
noncomputable def a9L : List T → MH → VK3 → Prop := fun xs M Q => match xs with
 | [.tup ts] => Q (.tup ts) M
 | [.rd ts] => Q (.tup ts) M
 | [.adr p] => (match M p with | some (.lst ts) => Q (.tup ts) M | _ => False)
 | _ => False
theorem a1T : a5i X (.type "tuple") a9L := by
 intro pins s σ H vs us Q2 I r h
 obtain ⟨xs, M, Q, rr, hh, q, en⟩ := h
 unfold a9L at q
 split at q
 ·obtain ⟨v, rfl, r1⟩ := a2z rr
  obtain ⟨p, ys, rfl, g1, g2⟩ := a1n r1
  exact a3L pins s σ H _ us Q2 I r ⟨p, ys, rfl, .inr ⟨g1, en _ _ M H Kp.refl hh r1 q⟩⟩
 ·obtain ⟨v, rfl, r1⟩ := a2z rr
  obtain ⟨p, ys, rfl, g1, g2⟩ := a7k r1
  exact a3L pins s σ H _ us Q2 I r ⟨p, ys, rfl, .inl ⟨g1.sq, fun l hl => en _ _ M _ (Kp.new hl) (hh.keep hl) (a2F (SqT.of a0O) (Reps.kp (Kp.new hl) _ _ g2)) q⟩⟩
 ·obtain ⟨v, rfl, r1⟩ := a2z rr
  obtain rfl := a0I r1
  split at q
  ·rename_i ts e0
   obtain ⟨ys, g1, g2⟩ := hh _ _ e0
   exact a3L pins s σ H _ us Q2 I r ⟨_, ys, rfl, .inl ⟨SqL.of g1, fun l hl => en _ _ M _ (Kp.new hl) (hh.keep hl) (a2F (SqT.of a0O) (Reps.kp (Kp.new hl) _ _ g2)) q⟩⟩
  ·exact q.elim
 ·exact q.elim
noncomputable def b2s : List T → MH → VK3 → Prop := fun xs M Q => match xs with
 | [.tup ts] => ∀ r, M r = none → Q (.adr r) (updM M r (.lst ts))
 | [.rd ts] => ∀ r, M r = none → Q (.adr r) (updM M r (.lst ts))
 | [.adr p] => (match M p with | some (.lst ts) => ∀ r, M r = none → Q (.adr r) (updM M r (.lst ts)) | _ => False)
 | _ => False
theorem b1U : a5i X (.type "list") b2s := by
 intro pins s σ H vs us Q2 I r h
 obtain ⟨xs, M, Q, rr, hh, q, en⟩ := h
 unfold b2s at q
 split at q
 ·obtain ⟨v, rfl, r1⟩ := a2z rr
  obtain ⟨p, ys, rfl, g1, g2⟩ := a1n r1
  exact a3Z pins s σ H _ us Q2 I r ⟨p, ys, rfl, .inr g1, fun l hl => en _ _ _ _ (Kp.new hl) (hh.newL hl g2) a2G (q l (hh.free hl))⟩
 ·obtain ⟨v, rfl, r1⟩ := a2z rr
  obtain ⟨p, ys, rfl, g1, g2⟩ := a7k r1
  exact a3Z pins s σ H _ us Q2 I r ⟨p, ys, rfl, .inl g1.sq, fun l hl => en _ _ _ _ (Kp.new hl) (hh.newL hl g2) a2G (q l (hh.free hl))⟩
 ·obtain ⟨v, rfl, r1⟩ := a2z rr
  obtain rfl := a0I r1
  split at q
  ·rename_i ts e0
   obtain ⟨ys, g1, g2⟩ := hh _ _ e0
   exact a3Z pins s σ H _ us Q2 I r ⟨_, ys, rfl, .inl (SqL.of g1), fun l hl => en _ _ _ _ (Kp.new hl) (hh.newL hl g2) a2G (q l (hh.free hl))⟩
  ·exact q.elim
 ·exact q.elim
noncomputable def b5Z : List T → MH → VK3 → Prop := fun xs M Q => match xs with
 | [.int i] => Q (.int i) M
 | [.bl k] => Q (.int (if k = true then 1 else 0)) M
 | [.str x] => ∃ n, PySem.intText? x = some n ∧ x.length ≤ 640 ∧ Q (.int n) M
 | _ => False
theorem a3i : a5i X (.type "int") b5Z := by
 intro pins s σ H vs us Q2 I r h
 obtain ⟨xs, M, Q, rr, hh, q, en⟩ := h
 unfold b5Z at q
 split at q
 ·obtain ⟨v, rfl, r1⟩ := a2z rr
  obtain rfl := a0z r1
  exact a9r pins s σ H _ us Q2 I r (.inl ⟨_, rfl, en _ _ M H Kp.refl hh a0U q⟩)
 ·obtain ⟨v, rfl, r1⟩ := a2z rr
  obtain rfl := a3m r1
  exact a9r pins s σ H _ us Q2 I r (.inr ⟨_, rfl, en _ _ M H Kp.refl hh a0U q⟩)
 ·obtain ⟨n, hn, hl, q⟩ := q
  obtain ⟨v, rfl, r1⟩ := a2z rr
  obtain rfl := a3p r1
  obtain ⟨u, rfl, ru⟩ := a5k r
  obtain ⟨t, rfl⟩ := ru
  exact PySem.W.KIN.call_text hn hl ⟨.int n, H, I.kept fun b o e => e, ⟨_, rfl⟩, en _ _ M H Kp.refl hh a0U q⟩
 ·exact q.elim
theorem a6X (hc : X.calm = true) : a6R X (.builtin "all") (fun xs H Q => ∃ (p : Addr) (bs : List Bool), xs = [.ref p] ∧ SqL X.K H p (bs.map V.bl) ∧ Q (.bl (bs.all id)) H) := by
 intro pins s σ H xs us Q I r h
 obtain ⟨p, bs, rfl, hq, q⟩ := h
 obtain ⟨u, rfl, rx⟩ := a5k r
 cases rx
 obtain ⟨its, r', pl, hz⟩ := I.list hq
 have hlen := r'.length
 refine call_all_walk (wpAny_pyIter_list pl.isList ?_)
 have hp : p < s.heap.objs.size := by obtain ⟨o, n, e, _⟩ := pl; exact Heap.lt_size e
 refine ⟨s.heap.objs.size, _, _, _, _, _, fun i => (bs[i]?).getD true, rfl, Walks.list (A := X.A.in1) (I.ok.hd hc) s.heap.objs.size p (Nat.ne_of_lt hp) its.toArray, ⟨⟨_, Heap.get?_push_size _ rfl, rfl, rfl⟩, pl.isList.push _⟩, ?_, fun h' tk hk => ?_⟩
 ·intro i v s' Q' E' hP hQ
  have hP' : its[i]? = some v := by simpa using hP
  have hi : i < bs.length := by
   have := (List.getElem?_eq_some_iff.mp hP').1
   rw [List.length_map] at hlen; lia
  obtain ⟨w, hw, rw'⟩ := r'.get (i := i) (x := .bl bs[i]) (by rw [List.getElem?_map, List.getElem?_eq_getElem hi] <;> rfl)
  rw [hP'] at hw; cases hw
  obtain rfl : v = Value.bool bs[i] := rw'
  refine wpAny_truthy_bool ?_
  have e : (bs[i]?).getD true = bs[i] := by rw [List.getElem?_eq_getElem hi] <;> rfl
  dsimp only at hQ; rw [e] at hQ; exact hQ
 ·have e : (List.range its.toArray.size).all (fun i => (bs[i]?).getD true) = bs.all id := by
   rw [List.length_map] at hlen
   rw [List.size_toArray, ← hlen]
   rw [Bool.eq_iff_iff]
   simp only [List.all_eq_true, List.mem_range, id]
   constructor
   ·intro h b hb
    obtain ⟨i, hi, rfl⟩ := List.getElem_of_mem hb
    have := h i hi
    rw [List.getElem?_eq_getElem hi] at this; exact this
   ·intro h i hi
    rw [List.getElem?_eq_getElem hi]; exact h _ (List.getElem_mem hi)
  rw [e]
  have I1 : Inv X pins σ H { s with heap := h', toks := tk } := I.kept fun b o eb => hk b o (by
   intro hm
   have : b = s.heap.objs.size := by simpa using hm
   rw [this] at eb
   exact absurd (Heap.lt_size eb) (Nat.lt_irrefl _)) (Heap.get?_push_of_some _ eb)
  exact ⟨.bl _, H, I1, rfl, q⟩
noncomputable def a8s : List T → Option (List Bool)
 | [] => some []
 | .bl b :: ts => (a8s ts).map (b :: ·)
 | _ :: _ => none
theorem a7u {K : PySem.W.Frag} {H : Hp} : ∀ {vs : List V} {ts : List T} {bs : List Bool}, Reps K H vs ts → a8s ts = some bs → vs = bs.map V.bl
 | vs, [], bs, h, e => by unfold a8s at e; cases e; unfold Reps at h; exact h
 | vs, t :: ts, bs, h, e => by
   unfold Reps at h
   obtain ⟨v, r, rfl, h1, h2⟩ := h
   cases t with
   | bl b =>
     unfold a8s at e
     cases q : a8s ts with
     | none => rw [q] at e; cases e
     | some cs =>
       rw [q] at e; cases e
       obtain rfl := a3m h1
       rw [a7u h2 q]; rfl
   | _ => unfold a8s at e; cases e
noncomputable def b6c : List T → MH → VK3 → Prop := fun xs M Q => match xs with
 | [.adr p] => (match M p with | some (.lst ts) => (match a8s ts with | some bs => Q (.bl (bs.all id)) M | none => False) | _ => False)
 | _ => False
theorem a5h (hc : X.calm = true) : a5i X (.builtin "all") b6c := by
 intro pins s σ H vs us Q2 I r h
 obtain ⟨xs, M, Q, rr, hh, q, en⟩ := h
 unfold b6c at q
 split at q
 ·obtain ⟨v, rfl, r1⟩ := a2z rr
  obtain rfl := a0I r1
  split at q
  ·rename_i ts e0
   obtain ⟨ys, g1, g2⟩ := hh _ _ e0
   split at q
   ·rename_i bs eb
    obtain rfl := a7u g2 eb
    exact a6X hc pins s σ H _ us Q2 I r ⟨_, bs, rfl, SqL.of g1, en _ _ M H Kp.refl hh a2L q⟩
   ·exact q.elim
  ·exact q.elim
 ·exact q.elim
end
section
variable {X : Cx} {a b c e : Expr} {st : Stmt} {rest ba bb body : List Stmt} {ta tb te : TE3} {tA : TT3} {t u : TS3} {pos : Pos}
noncomputable def b5g : TS3 := fun D ρ M => D.nx ρ M
noncomputable def a2l (t u : TS3) : TS3 := fun D ρ M => t { D with nx := u D } ρ M
theorem EndS.nx' {K : PySem.W.Frag} {H : Hp} {D : Ends3} {D2 : Ends} {t : TS3} (h : EndS K H D D2) : EndS K H { D with nx := t D } { D2 with nx := dS K t D2 } :=
 ⟨fun ρ' M' σ' H' k r hh q => ⟨D, ρ', M', q, r, hh, h.kp k⟩, h.rt, h.bk, h.ct⟩
theorem a0D : HSs X [] b5g := fun D ρ M h => b6k.imp fun D2 σ H ⟨hr, hh, en⟩ => en.nx ρ M σ H Kp.refl hr hh h
theorem a0c (h1 : HS X st t) (h2 : HSs X rest u) : HSs X (st :: rest) (a2l t u) := fun D ρ M h =>
 (b4n h1.d h2.d).imp fun D2 σ H ⟨hr, hh, en⟩ => ⟨{ D with nx := u D }, ρ, M, h, hr, hh, en.nx'⟩
theorem a0j (h1 : HS X st t) : HSs X [st] t := fun D ρ M h => b6j (h1 D ρ M h)
noncomputable def b7n (te : TE3) : TS3 := fun D ρ M => te ρ M D.rt
theorem a0C (he : HE X e te) : HS X (.Return (some e) pos) (b7n te) := fun D ρ M h =>
 (b7S (he.d (ρ := ρ))).imp fun D2 σ H ⟨hr, hh, en⟩ => ⟨M, _, h, hr, hh, en.rt⟩
noncomputable def b7t (c : TT3) (t u : TS3) : TS3 := fun D ρ M => c ρ M fun b M1 => if b = true then t D ρ M1 else u D ρ M1
theorem s_if (hc : HT X c tA) (ha : HSs X ba t) (hb : HSs X bb u) : HS X (.If c ba bb pos) (b7t tA t u) := fun D ρ M h =>
 (b9l (hc.d (ρ := ρ)) ha.d hb.d).imp fun D2 σ H ⟨hr, hh, en⟩ => ⟨M, _, h, hr, hh, fun b M1 H1 k1 h1 q1 => by
  dsimp only at q1 ⊢
  split
  ·rename_i hb; rw [if_pos hb] at q1
   exact ⟨D, ρ, M1, q1, hr.kp k1, h1, en.kp k1⟩
  ·rename_i hb; rw [if_neg hb] at q1
   exact ⟨D, ρ, M1, q1, hr.kp k1, h1, en.kp k1⟩⟩
noncomputable def b5J : TS3 := fun _ _ _ => False
theorem a7G : HS X st b5J := fun _ _ _ h => h.elim
noncomputable def b5i (te : TE3) : TS3 := fun D ρ M => te ρ M fun _ M1 => D.nx ρ M1
theorem a5B (he : HE X e te) (hs : swapsWith e none pos.line X.env = pure false := by rfl) : HS X (.Expr e pos) (b5i te) := fun D ρ M h =>
 (b6m (he.d (ρ := ρ)) hs).imp fun D2 σ H ⟨hr, hh, en⟩ => ⟨M, _, h, hr, hh, fun x v M1 H1 k1 h1 r1 q1 => en.nx ρ M1 σ H1 k1 (hr.kp k1) h1 q1⟩
noncomputable def b5H (i : Nat) (te : TE3) : TS3 := fun D ρ M => te ρ M fun x M1 => D.nx (ρ.set i (some x)) M1
theorem a0M {i : Nat} {x : Str} {pos' : Pos} (he : HE X e te) (hN : X.N.Nodup) (hi : X.N[i]? = some x := by rfl) (hx : Loc X.env.scope x := by first | exact Or.inl rfl | exact Or.inr rfl) (hs : swapsWith e (some (.Name x pos')) pos.line X.env = pure false := by rfl)
  (hf : X.fn x = true ∨ X.env.scope.names.lookup x = some .local := by first | exact .inl rfl | exact .inr rfl | assumption) : HS X (.Assign [.Name x pos'] e pos) (b5H i te) := fun D ρ M h =>
 (b7R hN hi hx (he.d (ρ := ρ)) hs hf).imp fun D2 σ H ⟨hr, hh, en⟩ => ⟨M, _, h, hr, hh, fun t v M1 H1 k1 h1 r1 q1 => en.nx _ M1 _ H1 k1 ((hr.kp k1).set i r1) h1 q1⟩
noncomputable abbrev TG3 := T → En → MH → (En → MH → Prop) → Prop
noncomputable abbrev TGs3 := List T → En → MH → (En → MH → Prop) → Prop
noncomputable def EndG (K : PySem.W.Frag) (H : Hp) (Q : En → MH → Prop) (Q2 : St → Hp → Prop) : Prop := ∀ ρ' M' σ' H', Kp K H H' → RhoR K σ' H' ρ' → HR K H' M' → Q ρ' M' → Q2 σ' H'
noncomputable def dG (K : PySem.W.Frag) (g : TG3) : TG := fun v σ H Q2 => ∃ t ρ M Q, g t ρ M Q ∧ Rep K H v t ∧ RhoR K σ H ρ ∧ HR K H M ∧ EndG K H Q Q2
noncomputable def dGs (K : PySem.W.Frag) (g : TGs3) : TGs := fun vs σ H Q2 => ∃ ts ρ M Q, g ts ρ M Q ∧ Reps K H vs ts ∧ RhoR K σ H ρ ∧ HR K H M ∧ EndG K H Q Q2
noncomputable def HG (X : Cx) (tg : Expr) (g : TG3) : Prop := PG X tg (dG X.K g)
noncomputable def HGs (X : Cx) (tgs : List Expr) (g : TGs3) : Prop := PGs X tgs (dGs X.K g)
noncomputable def a9b (i : Nat) : TG3 := fun t ρ M Q => Q (ρ.set i (some t)) M
theorem PG.imp {tg : Expr} {g g' : TG} (h : PG X tg g) (f : ∀ v σ H Q, g' v σ H Q → g v σ H Q) : PG X tg g' := fun pins s σ H v u Q I r q => h pins s σ H v u Q I r (f v σ H Q q)
theorem PGs.imp {tg : List Expr} {g g' : TGs} (h : PGs X tg g) (f : ∀ v σ H Q, g' v σ H Q → g v σ H Q) : PGs X tg g' := fun pins s σ H v u Q I r q => h pins s σ H v u Q I r (f v σ H Q q)
theorem a0Z {i : Nat} {x : Str} (hN : X.N.Nodup) (hi : X.N[i]? = some x := by rfl) (hx : Loc X.env.scope x := by first | exact Or.inl rfl | exact Or.inr rfl) (hf : X.fn x = true ∨ X.env.scope.names.lookup x = some .local := by first | exact .inl rfl | exact .inr rfl | assumption) : HG X (.Name x pos) (a9b i) :=
 (a0S hN hi hx hf).imp fun v σ H Q2 ⟨t, ρ, M, Q, q, r, hr, hh, en⟩ => en _ M _ H Kp.refl (hr.set i r) hh q
noncomputable def b6O : TGs3 := fun ts ρ M Q => ts = [] ∧ Q ρ M
noncomputable def a9d (g : TG3) (gs : TGs3) : TGs3 := fun ts ρ M Q => match ts with
 | t :: r => g t ρ M fun ρ1 M1 => gs r ρ1 M1 Q
 | [] => False
theorem a5H : HGs X [] b6O := a9O.imp fun v σ H Q2 ⟨ts, ρ, M, Q, ⟨e, q⟩, r, hr, hh, en⟩ => by
 subst e
 unfold Reps at r
 exact ⟨r, en ρ M σ H Kp.refl hr hh q⟩
theorem a1B {es : List Expr} {g : TG3} {gs : TGs3} (h1 : HG X e g) (h2 : HGs X es gs) (hs : (assignEach (e :: es) X.env).map (·.2) = assign e X.env :: (assignEach es X.env).map (·.2) := by rfl) : HGs X (e :: es) (a9d g gs) :=
 (a4Y h1 h2 hs).imp fun vs σ H Q2 ⟨ts, ρ, M, Q, q, r, hr, hh, en⟩ => by
  unfold a9d at q
  split at q
  ·rename_i t r'
   unfold Reps at r
   obtain ⟨v, vr, rfl, r1, r2⟩ := r
   exact ⟨v, vr, rfl, t, ρ, M, _, q, r1, hr, hh, fun ρ' M' σ' H' k hr' hh' q' => ⟨r', ρ', M', Q, q', Reps.kp k _ _ r2, hr', hh', fun ρ2 M2 σ2 H2 k2 => en ρ2 M2 σ2 H2 (k.trans k2)⟩⟩
  ·exact q.elim
noncomputable def b3n (n : Nat) (gs : TGs3) : TG3 := fun t ρ M Q => match t with
 | .tup ts => ts.length = n ∧ gs ts ρ M Q
 | _ => False
theorem a9a {es : List Expr} {k : Nat} {gs : TGs3} {n : Nat} (hc : X.calm = true) (h : HGs X es gs) (hn : (assignEach es X.env).length = n := by rfl) (hst : (assignEach es X.env).findIdx? (·.1) = none := by rfl) : HG X (.Tuple es k pos) (b3n n gs) :=
 (b2A hc h hn hst).imp fun v σ H Q2 ⟨t, ρ, M, Q, q, r, hr, hh, en⟩ => by
  unfold b3n at q
  split at q
  ·rename_i ts
   obtain ⟨a, xs, rfl, g1, g2⟩ := a1n r
   exact ⟨a, xs, rfl, g1, by rw [g2.length]; exact q.1, ts, ρ, M, Q, q.2, g2, hr, hh, en⟩
  ·exact q.elim
noncomputable def b8F (to ti : TE3) : TG3 := fun v ρ M Q => to ρ M fun o M1 => ti ρ M1 fun i M2 => match o, i with
 | .adr p, .int k => (match M2 p with
   | some (.lst ts) => (match ixN ts.length k with | some j => Q ρ (updM M2 p (.lst (ts.set j v))) | none => False)
   | _ => False)
 | _, _ => False
theorem a5P {o i : Expr} {to ti : TE3} (ho : HE X o to) (hi : HE X i ti)
  (ha : ∀ v, assign (.Subscript o i pos) X.env v = (do
   let ov ← holding [v] (eval o X.env)
   let iv ← holding [v, ov] (eval i X.env)
   standAt pos
   holding [v, ov, iv] (setItem ov iv v)
   release [v, ov, iv] []) := by intro _; rfl) : HG X (.Subscript o i pos) (b8F to ti) := by
 intro pins s σ H v u Q2 I r h
 obtain ⟨t, ρ, M, Q, q, rt, hr, hh, en⟩ := h
 refine b7Y (ho.d (ρ := ρ)) (hi.d (ρ := ρ)) b0z ha pins s σ H v u Q2 I r ?_
 refine ⟨M, _, q, hr, hh, fun ot ov M1 H1 k1 h1 r1 q1 => ⟨M1, _, q1, hr.kp k1, h1, fun it iv M2 H2 k2 h2 r2 q2 => ?_⟩⟩
 dsimp only at q2
 split at q2
 ·obtain rfl := a0I r1
  obtain rfl := a0z r2
  split at q2
  ·rename_i ts e0
   obtain ⟨xs, g1, g2⟩ := h2 _ _ e0
   split at q2
   ·rename_i j ej
    have kk := k1.trans k2
    refine ⟨_, xs, _, j, rfl, rfl, g1, by rw [g2.length]; exact ej, en _ _ σ _ (kk.trans (Kp.lst g1)) (hr.kp (kk.trans (Kp.lst g1))) (h2.setL g1 (g2.set (Rep.kp kk _ _ rt) j)) q2⟩
   ·exact q2.elim
  ·exact q2.elim
 ·exact q2.elim
noncomputable def b7w (te : TE3) (g : TG3) : TS3 := fun D ρ M => te ρ M fun x M1 => g x ρ M1 D.nx
theorem a4s {tg : Expr} {g : TG3} (he : HE X e te) (hg : HG X tg g) (hs : swapsWithSole [tg] e pos.line X.env = pure false := by rfl) (hw : swappedStores [tg] e X.env = pure none := by rfl)
  (h1 : (assignEach [tg] X.env).map (·.2) = [assign tg X.env] := by rfl) : HS X (.Assign [tg] e pos) (b7w te g) := fun D ρ M h =>
 (b7W (he.d (ρ := ρ)) hg hs hw h1).imp fun D2 σ H ⟨hr, hh, en⟩ => ⟨M, _, h, hr, hh, fun t v M1 H1 k1 h1 r1 q1 => ⟨t, ρ, M1, D.nx, q1, r1, hr.kp k1, h1, fun ρ' M' σ' H' k r hh' q => en.nx ρ' M' σ' H' (k1.trans k) r hh' q⟩⟩
structure It3 where
 items : List T
 stay : MH → Prop := fun _ => True
noncomputable abbrev TI3 := En → MH → (It3 → MH → Prop) → Prop
structure ItOk (K : PySem.W.Frag) (H : Hp) (J2 : It) (J : It3) : Prop where
 stop : ∀ H' M', Kp K H H' → HR K H' M' → J.stay M' → J2.stop J.items.length H'
 go : ∀ (i : Nat) (x : T) H' M', J.items[i]? = some x → Kp K H H' → HR K H' M' → J.stay M' → J2.go i H' ∧ ∀ v H'', J2.yld i H' v H'' → Kp K H' H'' ∧ HR K H'' M' ∧ Rep K H'' v x
noncomputable def HI (X : Cx) (tg iter : Expr) (wi : TI3) : Prop := ∀ ρ M R, wi ρ M R → PI X tg iter (fun σ H R2 => RhoR X.K σ H ρ ∧ HR X.K H M ∧ ∀ J J2 M' H', Kp X.K H H' → HR X.K H' M' → ItOk X.K H' J2 J → R J M' → R2 J2 H')
noncomputable def dI (K : PySem.W.Frag) (ρ : En) (wi : TI3) : TI := fun σ H R2 => ∃ M R, wi ρ M R ∧ RhoR K σ H ρ ∧ HR K H M ∧ ∀ J J2 M' H', Kp K H H' → HR K H' M' → ItOk K H' J2 J → R J M' → R2 J2 H'
theorem HI.d {tg iter : Expr} {wi : TI3} {ρ : En} (h : HI X tg iter wi) : PI X tg iter (dI X.K ρ wi) := fun pins s σ H R I ⟨M, R3, q, b⟩ => h ρ M R3 q pins s σ H R I b
theorem PI.imp {tg iter : Expr} {w w' : TI} (h : PI X tg iter w) (f : ∀ σ H R, w' σ H R → w σ H R) : PI X tg iter w' := fun pins s σ H R I q => h pins s σ H R I (f σ H R q)
noncomputable def b8D (tl : TE3) : TI3 := fun ρ M R => tl ρ M fun x M1 => match x with
 | .tup ts => R ⟨ts, fun _ => True⟩ M1
 | .adr p => (match M1 p with | some (.lst ts) => R ⟨ts, fun M' => M' p = some (.lst ts)⟩ M1 | _ => False)
 | _ => False
theorem b4I {K : PySem.W.Frag} {H : Hp} {a : Addr} {xs : List V} {ts : List T} (h : SqT K H a xs) (r : Reps K H xs ts) : ItOk K H (Itt K a) ⟨ts, fun _ => True⟩ := by
 refine ⟨fun H' M' k hh _ => ⟨xs, k.tup _ _ h, by rw [r.length]; exact Nat.le_refl _⟩, fun i x H' M' e k hh _ => ?_⟩
 obtain ⟨v, e1, r1⟩ := r.get e
 refine ⟨⟨xs, v, k.tup _ _ h, e1⟩, fun v' H'' y => ?_⟩
 obtain ⟨rfl, y⟩ := y
 have := y xs (k.tup _ _ h)
 rw [e1] at this; cases this
 exact ⟨Kp.refl, hh, Rep.kp k _ _ r1⟩
theorem b4J {K : PySem.W.Frag} {H : Hp} {a : Addr} {ts : List T} : ItOk K H (Itl K a) ⟨ts, fun M' => M' a = some (.lst ts)⟩ := by
 refine ⟨fun H' M' k hh st => ?_, fun i x H' M' e k hh st => ?_⟩
 ·obtain ⟨xs, g1, g2⟩ := hh _ _ st
  exact ⟨xs, SqL.of g1, by rw [g2.length]; exact Nat.le_refl _⟩
 ·obtain ⟨xs, g1, g2⟩ := hh _ _ st
  obtain ⟨v, e1, r1⟩ := g2.get e
  refine ⟨⟨xs, v, SqL.of g1, e1⟩, fun v' H'' y => ?_⟩
  obtain ⟨rfl, y⟩ := y
  have := y xs (SqL.of g1)
  rw [e1] at this; cases this
  exact ⟨Kp.refl, hh, r1⟩
noncomputable def a1j (lo : Int) (n : Nat) : List T := (List.range n).map fun i => T.int (lo + (i : Nat))
theorem a7i {K : PySem.W.Frag} {H : Hp} {lo : Int} {n : Nat} : ItOk K H (Itr lo n) ⟨a1j lo n, fun _ => True⟩ := by
 have hl : (a1j lo n).length = n := by unfold a1j; simp
 refine ⟨fun H' M' k hh _ => by show n ≤ (a1j lo n).length; rw [hl]; exact Nat.le_refl _, fun i x H' M' e k hh _ => ?_⟩
 have hi : i < n := by have := (List.getElem?_eq_some_iff.mp e).1; rwa [hl] at this
 have ex : x = .int (lo + (i : Nat)) := by
  unfold a1j at e
  rw [List.getElem?_map, List.getElem?_range hi] at e
  exact (Option.some.inj e).symm
 subst ex
 refine ⟨hi, fun v H'' y => ?_⟩
 obtain ⟨rfl, rfl⟩ := y
 exact ⟨Kp.refl, hh, a0U⟩
theorem a4J {tg l : Expr} {tl : TE3} (hl : HE X l tl) : HI X tg l (b8D tl) := by
 intro ρ M R h pins s σ H R2 I b
 obtain ⟨hr, hh, en⟩ := b
 refine thn (hl ρ M _ h pins s σ H (fun v H1 => ∃ t M1, Kp X.K H H1 ∧ HR X.K H1 M1 ∧ Rep X.K H1 v t ∧ (match t with
  | .tup ts => R ⟨ts, fun _ => True⟩ M1
  | .adr p => (match M1 p with | some (.lst ts) => R ⟨ts, fun M' => M' p = some (.lst ts)⟩ M1 | _ => False)
  | _ => False)) I ⟨hr, hh, fun t v M1 H1 k1 h1 r1 q1 => ⟨t, M1, k1, h1, r1, q1⟩⟩) fun v s1 ⟨x, H1, I1, rv, t, M1, k1, h1, r1, q1⟩ => ?_
 split at q1
 ·rename_i ts
  obtain ⟨a, xs, rfl, g1, g2⟩ := a1n r1
  cases rv
  obtain ⟨its, rv, p, hz⟩ := I1.tuple g1
  refine wpAny_pyIter_tuple (show s1.heap.IsTuple a its.toArray from p) ?_
  refine ⟨s1.heap.objs.size, [s1.heap.objs.size], _, _, H1, rfl, I1.kept (t' := s1.toks) fun b o e => Heap.get?_push_of_some _ e, b1j a _, ⟨_, Heap.get?_push_size _ rfl, rfl, rfl⟩, fun b hb => ?_, en _ _ M1 H1 k1 h1 (b4I g1 g2) q1⟩
  have e : b = s1.heap.objs.size := by simpa using hb
  subst e
  exact I1.fpOk (Nat.le_refl _) (I1.hok.fresh (Nat.le_refl _))
 ·rename_i a
  obtain rfl := a0I r1
  cases rv
  split at q1
  ·rename_i ts e0
   obtain ⟨xs, g1, g2⟩ := h1 _ _ e0
   obtain ⟨its, rv, p, hz⟩ := I1.list (SqL.of g1)
   refine wpAny_pyIter_list p.isList ?_
   refine ⟨s1.heap.objs.size, [s1.heap.objs.size], _, _, H1, rfl, I1.kept (t' := s1.toks) fun b o e => Heap.get?_push_of_some _ e, b2a a _, ⟨_, Heap.get?_push_size _ rfl, rfl, rfl⟩, fun b hb => ?_, en _ _ M1 H1 k1 h1 b4J q1⟩
   have e : b = s1.heap.objs.size := by simpa using hb
   subst e
   exact I1.fpOk (Nat.le_refl _) (I1.hok.fresh (Nat.le_refl _))
  ·exact q1.elim
 ·exact q1.elim
noncomputable def b3i (t : TA3) : TI3 := fun ρ M R => t ρ M fun xs M1 => match xs with
 | [.int j] => -(2 ^ 62) ≤ j ∧ j < 2 ^ 62 ∧ R ⟨a1j 0 j.toNat, fun _ => True⟩ M1
 | _ => False
noncomputable def b3h (t : TA3) : TI3 := fun ρ M R => t ρ M fun xs M1 => match xs with
 | [.int i, .int j] => (-(2 ^ 62) ≤ i ∧ i < 2 ^ 62 ∧ -(2 ^ 62) ≤ j ∧ j < 2 ^ 62) ∧ R ⟨a1j i (j - i).toNat, fun _ => True⟩ M1
 | _ => False
theorem a1v {tg : Expr} {t : TA3} {p : Pos} (hm : X.mg "range" = none) (ha : HA X [a] t) (hg : Gl X "range" := by rfl) (hs : starEach [a] X.env = [(false, eval a X.env)] := by rfl) : HI X tg (.Call (.Name "range" p) [a] [] pos) (b3i t) := fun ρ M R h =>
 (b2z hg hm (ha.d (ρ := ρ)) hs).imp fun σ H R2 ⟨hr, hh, en⟩ => ⟨M, _, h, hr, hh, fun ts vs M1 H1 k1 h1 r1 q1 => by
  dsimp only at q1
  split at q1
  ·rename_i j
   obtain ⟨v, rfl, rv⟩ := a2z r1
   obtain rfl := a0z rv
   exact ⟨j, rfl, q1.1, q1.2.1, en _ _ M1 H1 k1 h1 a7i q1.2.2⟩
  ·exact q1.elim⟩
theorem b0N {tg : Expr} {t : TA3} {p : Pos} (hm : X.mg "range" = none) (ha : HA X [a, b] t) (hg : Gl X "range" := by rfl) (hs : starEach [a, b] X.env = [(false, eval a X.env), (false, eval b X.env)] := by rfl) (hs2 : starEach [b] X.env = [(false, eval b X.env)] := by rfl) : HI X tg (.Call (.Name "range" p) [a, b] [] pos) (b3h t) := fun ρ M R h =>
 (b2y hg hm (ha.d (ρ := ρ)) hs hs2).imp fun σ H R2 ⟨hr, hh, en⟩ => ⟨M, _, h, hr, hh, fun ts vs M1 H1 k1 h1 r1 q1 => by
  dsimp only at q1
  split at q1
  ·rename_i i j
   obtain ⟨v, w', rfl, rv, rw'⟩ := b5S r1
   obtain rfl := a0z rv
   obtain rfl := a0z rw'
   exact ⟨i, j, rfl, q1.1, en _ _ M1 H1 k1 h1 a7i q1.2⟩
  ·exact q1.elim⟩
noncomputable def a3Q (wi : TI3) (g : TG3) (tb : TS3) : TS3 := fun D ρ M => wi ρ M fun J M1 => ∃ W : Nat → En → MH → Prop, W 0 ρ M1 ∧ (∀ i ρ M, W i ρ M → J.stay M) ∧
 (∀ i x ρ M, J.items[i]? = some x → W i ρ M → g x ρ M fun ρ2 M2 => tb { D with nx := W (i + 1), ct := W (i + 1), bk := D.nx } ρ2 M2) ∧ ∀ ρ M, W J.items.length ρ M → D.nx ρ M
theorem a4r {tg iter : Expr} {wi : TI3} {g : TG3} {tb : TS3} (hp : PassesOwn (model X.prog X.w) X.A X.env X.xe) (hc : X.calm = true) (hi : HI X tg iter wi) (hg : HG X tg g) (hb : HSs X body tb)
  (hs : ∀ x, foldedSetIterable iter X.env x = pure x := by intro _; rfl) : HS X (.For tg iter body [] pos) (a3Q wi g tb) := fun D ρ0 M0 h =>
 (b7U hp hc (hi.d (ρ := ρ0)) hg hb.d hs).imp fun D2 σ0 H0 ⟨hr0, hh0, en⟩ => ⟨M0, _, h, hr0, hh0, fun J J2 M1 H1 k1 h1 ok q1 => by
  obtain ⟨W, w0, wst, turn, fin⟩ := q1
  refine ⟨fun i m σ H => m = J.items.length - i ∧ i ≤ J.items.length ∧ Kp X.K H1 H ∧ ∃ ρ M, RhoR X.K σ H ρ ∧ HR X.K H M ∧ W i ρ M, ⟨_, rfl, Nat.zero_le _, Kp.refl, ρ0, M1, hr0.kp k1, h1, w0⟩, ?_⟩
  rintro i m σ H ⟨rfl, hi, kk, ρ, M, hr, hh, w⟩
  have st := wst i ρ M w
  by_cases hlt : i < J.items.length
  ·have e : J.items[i]? = some J.items[i] := List.getElem?_eq_getElem hlt
   obtain ⟨go, yl⟩ := ok.go i _ H M e kk hh st
   refine .inr ⟨go, fun σ' H' => i + 1 ≤ J.items.length ∧ Kp X.K H1 H' ∧ ∃ ρ M, RhoR X.K σ' H' ρ ∧ HR X.K H' M ∧ W (i + 1) ρ M, fun σ' H' ⟨a, b, c⟩ => ⟨_, by lia, rfl, a, b, c⟩, fun v H' y => ?_⟩
   obtain ⟨k2, h2, r2⟩ := yl v H' y
   refine ⟨J.items[i], ρ, M, _, turn i _ ρ M e w, r2, hr.kp k2, h2, fun ρ3 M3 σ3 H3 k3 hr3 hh3 q3 => ⟨_, ρ3, M3, q3, hr3, hh3, ?_⟩⟩
   have kall := kk.trans (k2.trans k3)
   refine ⟨fun ρ4 M4 σ4 H4 k4 hr4 hh4 q4 => ⟨hlt, kall.trans k4, ρ4, M4, hr4, hh4, q4⟩, fun t v M4 H4 k4 h4 r4 q4 => en.rt t v M4 H4 (k1.trans (kall.trans k4)) h4 r4 q4, fun ρ4 M4 σ4 H4 k4 hr4 hh4 q4 => en.nx ρ4 M4 σ4 H4 (k1.trans (kall.trans k4)) hr4 hh4 q4, fun ρ4 M4 σ4 H4 k4 hr4 hh4 q4 => ⟨hlt, kall.trans k4, ρ4, M4, hr4, hh4, q4⟩⟩
  ·have e : i = J.items.length := by lia
   subst e
   exact .inl ⟨ok.stop H M kk hh st, en.nx ρ M σ H (k1.trans kk) hr hh (fin ρ M w)⟩⟩
noncomputable def b2d (c : TT3) (tb : TS3) : TS3 := fun D ρ M => ∃ W : Nat → En → MH → Prop, (∃ m, W m ρ M) ∧ ∀ m ρ M, W m ρ M →
 c ρ M fun b M1 => if b = true then tb { D with nx := fun ρ' M' => ∃ m', m' < m ∧ W m' ρ' M', ct := fun ρ' M' => ∃ m', m' < m ∧ W m' ρ' M', bk := D.nx } ρ M1 else D.nx ρ M1
theorem b5Q {c : Expr} {tc : TT3} {tb : TS3} (hp : PassesOwn (model X.prog X.w) X.A X.env X.xe) (hc : HT X c tc) (hb : HSs X body tb) : HS X (.While c body [] pos) (b2d tc tb) := by
 intro D ρ0 M0 h pins s σ H D2 I b
 obtain ⟨hr0, hh0, en⟩ := b
 obtain ⟨W, ⟨m0, w0⟩, turn⟩ := h
 refine wpAny_While (codeAny_whileLoop (fun n s' => ∃ σ' H' ρ M, Inv X pins σ' H' s' ∧ Kp X.K H H' ∧ RhoR X.K σ' H' ρ ∧ HR X.K H' M ∧ W n ρ M) ?_ m0 ⟨σ, H, ρ0, M0, I, Kp.refl, hr0, hh0, w0⟩)
 rintro n s1 ⟨σ1, H1, ρ, M, I1, k1, hr, hh, w1⟩
 refine wpAny_passesOwn hp (thn (hc ρ M _ (turn n ρ M w1) pins s1 σ1 H1 (fun b H2 => ∃ M2, Kp X.K H1 H2 ∧ HR X.K H2 M2 ∧ (if b = true then tb { D with nx := fun ρ' M' => ∃ m', m' < n ∧ W m' ρ' M', ct := fun ρ' M' => ∃ m', m' < n ∧ W m' ρ' M', bk := D.nx } ρ M2 else D.nx ρ M2)) I1 ⟨hr, hh, fun b M2 H2 k2 h2 q2 => ⟨M2, k2, h2, q2⟩⟩) fun b s2 ⟨H2, I2, M2, k2, h2, q2⟩ => ?_)
 have kk := k1.trans k2
 cases b with
 | true =>
   rw [if_pos rfl] at q2
   rw [if_pos rfl]
   refine wpAny_passesOwn hp (thn (hb _ ρ M2 q2 pins s2 σ1 H2 { nx := fun σ' H' => ∃ ρ' M', Kp X.K H2 H' ∧ RhoR X.K σ' H' ρ' ∧ HR X.K H' M' ∧ ∃ m', m' < n ∧ W m' ρ' M', rt := D2.rt, bk := D2.nx, ct := fun σ' H' => ∃ ρ' M', Kp X.K H2 H' ∧ RhoR X.K σ' H' ρ' ∧ HR X.K H' M' ∧ ∃ m', m' < n ∧ W m' ρ' M' } I2
    ⟨hr.kp k2, h2, ⟨fun ρ' M' σ' H' k r hh' q => ⟨ρ', M', k, r, hh', q⟩, en.rt.kp kk, fun ρ' M' σ' H' k r hh' q => en.nx ρ' M' σ' H' (kk.trans k) r hh' q, fun ρ' M' σ' H' k r hh' q => ⟨ρ', M', k, r, hh', q⟩⟩⟩) fun f s3 q3 => ?_)
   cases f with
   | next =>
     obtain ⟨σ3, H3, I3, ρ', M', k3, r3, h3, m', hm, w3⟩ := q3
     exact ⟨m', hm, σ3, H3, ρ', M', I3, kk.trans k3, r3, h3, w3⟩
   | cont =>
     obtain ⟨σ3, H3, I3, ρ', M', k3, r3, h3, m', hm, w3⟩ := q3
     exact ⟨m', hm, σ3, H3, ρ', M', I3, kk.trans k3, r3, h3, w3⟩
   | brk => exact q3
   | ret v => exact q3
 | false =>
   rw [if_neg Bool.false_ne_true] at q2
   rw [if_neg Bool.false_ne_true]
   exact wpAny_execs_nil ⟨σ1, H2, I2, en.nx ρ M2 σ1 H2 kk (hr.kp k2) h2 q2⟩
noncomputable def a7Q (ix : List (Option Nat)) (ρ : En) : En := ix.map fun o => match o with | some j => (ρ[j]?).join | none => none
theorem b4g {K : PySem.W.Frag} {σ : St} {H : Hp} {ρ : En} (ix : List (Option Nat)) (h : RhoR K σ H ρ) : RhoR K (pick ix σ) H (a7Q ix ρ) := by
 refine ⟨by unfold pick a7Q; simp, fun i t e => ?_⟩
 unfold a7Q at e
 unfold pick
 rw [List.getElem?_map] at e ⊢
 cases hx : ix[i]? with
 | none => rw [hx] at e; cases e
 | some o =>
   rw [hx] at e
   cases o with
   | none =>
     have e' : (none : Option T) = some t := Option.some.inj e
     cases e'
   | some j =>
     have e' : (ρ[j]?).join = some t := Option.some.inj e
     cases hj : ρ[j]? with
     | none => rw [hj] at e'; cases e'
     | some u =>
       rw [hj] at e'
       have e2 : u = some t := e'
       subst e2
       obtain ⟨v, a, b⟩ := h.2 j t hj
       exact ⟨v, by show some ((σ[j]?).join) = some (some v); rw [a] <;> rfl, b⟩
noncomputable def b0x (wi : TI3) (ix : List (Option Nat)) (g : TG3) (tt : TT3) (te : TE3) : TE3 := fun ρ M Q => wi ρ M fun J M1 => ∃ W : Nat → List T → MH → Prop, W 0 [] M1 ∧ (∀ i ys M, W i ys M → J.stay M) ∧ J.items.length < sizeLine ∧
 (∀ i x ys M, J.items[i]? = some x → W i ys M → g x (a7Q ix ρ) M fun ρ2 M2 => tt ρ2 M2 fun ok M3 => if ok = true then te ρ2 M3 fun y M4 => W (i + 1) (ys ++ [y]) M4 else W (i + 1) ys M3) ∧
 ∀ ys M, W J.items.length ys M → ∀ p, M p = none → Q (.adr p) (updM M p (.lst ys))
noncomputable def HTs (X : Cx) (ifs : List Expr) (t : TT3) : Prop := ∀ ρ M Q, t ρ M Q → PTs X ifs (bT X.K ρ M Q)
noncomputable def b7j : TT3 := fun _ M Q => Q true M
theorem a2K : HTs X [] b7j := fun ρ M Q h pins s σ H Q2 I ⟨hr, hh, en⟩ => b6h pins s σ H Q2 I (en true M H Kp.refl hh h)
theorem a8y {c : Expr} {t : TT3} (h : HT X c t) : HTs X [c] t := fun ρ M Q q => b6g (h ρ M Q q)
end
noncomputable def dEx (K : PySem.W.Frag) (t : TE3) : TE := fun σ H Q2 => ∃ ρ M Q, t ρ M Q ∧ bE K ρ M Q σ H Q2
noncomputable def dTx (K : PySem.W.Frag) (t : TT3) : TT := fun σ H Q2 => ∃ ρ M Q, t ρ M Q ∧ bT K ρ M Q σ H Q2
section
variable {X : Cx} {e : Expr}
theorem HE.dx {t : TE3} (h : HE X e t) : PE X e (dEx X.K t) := fun pins s σ H Q I ⟨ρ, M, Q3, q, b⟩ => h ρ M Q3 q pins s σ H Q I b
theorem HTs.dx {ifs : List Expr} {t : TT3} (h : HTs X ifs t) : PTs X ifs (dTx X.K t) := fun pins s σ H Q I ⟨ρ, M, Q3, q, b⟩ => h ρ M Q3 q pins s σ H Q I b
structure BTg (K : PySem.W.Frag) (ix : List (Option Nat)) (g2 : TG) (g3 : TG3) : Prop where
 own : Own ix g2
 br : ∀ (t : T) (v : V) (ρ : En) (M : MH) (σ : St) (H : Hp) (Q3 : En → MH → Prop) (Q2 : St → Hp → Prop), Rep K H v t → RhoR K σ H ρ → HR K H M → g3 t ρ M Q3 → EndG K H Q3 Q2 → g2 v σ H Q2
theorem a1o {K : PySem.W.Frag} {ix : List (Option Nat)} {i : Nat} (h : ix[i]? = some none := by rfl) : BTg K ix (a9c i) (a9b i) :=
 ⟨a7R h, fun t v ρ M σ H Q3 Q2 r hr hh q en => en _ M _ H Kp.refl (hr.set i r) hh q⟩
theorem b3L {K : PySem.W.Frag} {ix : List (Option Nat)} {i j : Nat} (h : ix[i]? = some none := by rfl) (h' : ix[j]? = some none := by rfl) : BTg K ix (gTup K 2 (b4O (a9c i) (b4O (a9c j) gNil))) (b3n 2 (a9d (a9b i) (a9d (a9b j) b6O))) := by
 refine ⟨b6y (a8I a7n (a7R h) (a8I a7n (a7R h') b4t)), fun t v ρ M σ H Q3 Q2 r hr hh q en => ?_⟩
 unfold b3n at q
 split at q
 ·rename_i ts
  obtain ⟨a, xs, rfl, g1, g2⟩ := a1n r
  obtain ⟨hl, q⟩ := q
  match ts, hl, g2, q with
  | [x, y], _, g2, q =>
    obtain ⟨v1, v2, rfl, r1, r2⟩ := b5S g2
    refine ⟨a, _, rfl, g1, rfl, v1, [v2], rfl, v2, [], rfl, rfl, ?_⟩
    exact en _ M _ H Kp.refl ((hr.set i r1).set j r2) hh q.2
 ·exact q.elim
variable {elt iter tg : Expr} {ifs : List Expr} {pos : Pos} {scope : Scope} {N' : List Str} {ix : List (Option Nat)} {wi : TI3} {g2 : TG} {g3 : TG3} {tt : TT3} {te : TE3}
theorem b0Z {X : Cx} {N' : List Str} {ix : List (Option Nat)} {wi : TI3} {g2 : TG} {g3 : TG3} {tt : TT3} {te : TE3} (bt : BTg X.K ix g2 g3) (ρ0 : En) (M0 : MH) (Q : VK3) (h : b0x wi ix g3 tt te ρ0 M0 Q) (σ0 : St) (H0 : Hp) (Q2 : VK) (bb : bE X.K ρ0 M0 Q σ0 H0 Q2) :
  b3Z (dI X.K ρ0 wi) ix g2 (dTx X.K tt) (dEx X.K te) σ0 H0 Q2 := by
 obtain ⟨hr0, hh0, en⟩ := bb
 exact ⟨M0, _, h, hr0, hh0, fun J J2 M1 H1 k1 h1 ok q1 => by
  obtain ⟨W, w0, wst, hsz, turn, fin⟩ := q1
  refine ⟨fun i m ys H => m = J.items.length - i ∧ i ≤ J.items.length ∧ ys.length ≤ i ∧ Kp X.K H1 H ∧ ∃ ts M, Reps X.K H ys ts ∧ HR X.K H M ∧ W i ts M, ⟨_, rfl, Nat.zero_le _, Nat.zero_le _, Kp.refl, [], M1, .nil, h1, w0⟩, ?_⟩
  rintro i m ys H ⟨rfl, hi, hy, kk, ts, M, rts, hh, w⟩
  have st := wst i ts M w
  by_cases hlt : i < J.items.length
  ·have e : J.items[i]? = some J.items[i] := List.getElem?_eq_getElem hlt
   obtain ⟨go, yl⟩ := ok.go i _ H M e kk hh st
   refine .inr ⟨go, by lia, fun v H' y => ?_⟩
   obtain ⟨k2, h2, r2⟩ := yl v H' y
   have kk2 := kk.trans k2
   refine bt.br J.items[i] v _ M _ H' _ _ r2 (b4g ix (hr0.kp (k1.trans kk2))) h2 (turn i _ ts M e w) fun ρ3 M3 σ3 H3 k3 hr3 hh3 q3 => ⟨ρ3, M3, _, q3, hr3, hh3, fun b M4 H4 k4 h4 q4 => ?_⟩
   have kk4 := kk2.trans (k3.trans k4)
   dsimp only at q4 ⊢
   cases b with
   | true =>
     rw [if_pos rfl] at q4 ⊢
     refine ⟨ρ3, M4, _, q4, hr3.kp k4, h4, fun t5 v5 M5 H5 k5 h5 r5 q5 => ⟨_, Nat.sub_lt_sub_left hlt (Nat.lt_succ_self i), rfl, hlt, ?_, kk4.trans k5, ts ++ [t5], M5, ?_, h5, q5⟩⟩
     ·rw [List.length_append, List.length_singleton]; lia
     ·exact (Reps.kp (k2.trans (k3.trans (k4.trans k5))) _ _ rts).append (.cons r5 .nil)
   | false =>
     rw [if_neg Bool.false_ne_true] at q4 ⊢
     exact ⟨_, Nat.sub_lt_sub_left hlt (Nat.lt_succ_self i), rfl, hlt, by lia, kk4, ts, M4, Reps.kp (k2.trans (k3.trans k4)) _ _ rts, h4, q4⟩
  ·have e : i = J.items.length := by lia
   subst e
   refine .inl ⟨ok.stop H M kk hh st, by lia, fun p hp => ?_⟩
   exact en _ _ _ _ (k1.trans (kk.trans (Kp.new hp))) (hh.newL hp rts) a2G (fin ts M w p (hh.free hp))⟩
theorem a2B (hc : X.calm = true) (hi : HI X tg iter wi) (S : BlkScope X N' ix scope) (bt : BTg X.K ix g2 g3) (hg : ∀ C s H fp pins, PG (blk X N' scope C s H fp pins) tg g2)
  (ht : ∀ C s H fp pins, HTs (blk X N' scope C s H fp pins) ifs tt) (he : ∀ C s H fp pins, HE (blk X N' scope C s H fp pins) elt te)
  (hs : ∀ x, foldedSetIterable iter X.env x = pure x := by intro _; rfl) :
  HE X (.ListComp elt [⟨tg, iter, ifs, 0⟩] scope pos) (b0x wi ix g3 tt te) := fun ρ0 M0 Q h =>
 (b6v (tt := dTx X.K tt) (te := dEx X.K te) hc (hi.d (ρ := ρ0)) S bt.own hg (fun C s H fp pins => (ht C s H fp pins).dx) (fun C s H fp pins => (he C s H fp pins).dx) hs).imp fun σ0 H0 Q2 bb => b0Z (X := X) (N' := N') bt ρ0 M0 Q h σ0 H0 Q2 bb
theorem b0B {i : Nat} {x : Str} {pos' spos : Pos} (hc : X.calm = true) (hi : HI X tg iter wi) (S : BlkScope X N' ix scope) (bt : BTg X.K ix g2 g3) (hg : ∀ C s H fp pins, PG (blk X N' scope C s H fp pins) tg g2)
  (ht : ∀ C s H fp pins, HTs (blk X N' scope C s H fp pins) ifs tt) (he : ∀ C s H fp pins, HE (blk X N' scope C s H fp pins) elt te) (hN : X.N.Nodup) (hi' : X.N[i]? = some x := by rfl) (hx : Loc X.env.scope x := by first | exact Or.inl rfl | exact Or.inr rfl)
  (hsw : swapsWith (.ListComp elt [⟨tg, iter, ifs, 0⟩] scope pos) (some (.Name x pos')) spos.line X.env = pure true := by rfl)
  (hs : ∀ x, foldedSetIterable iter X.env x = pure x := by intro _; rfl) (hf : X.fn x = true ∨ X.env.scope.names.lookup x = some .local := by first | exact .inl rfl | exact .inr rfl | assumption) :
  HS X (.Assign [.Name x pos'] (.ListComp elt [⟨tg, iter, ifs, 0⟩] scope pos) spos) (b5H i (b0x wi ix g3 tt te)) := fun D ρ M h =>
 (b6l (tt := dTx X.K tt) (te := dEx X.K te) hN hi' hx hc (hi.d (ρ := ρ)) S bt.own hg (fun C s H fp pins => (ht C s H fp pins).dx) (fun C s H fp pins => (he C s H fp pins).dx) hsw hs hf).imp fun D2 σ H ⟨hr, hh, en⟩ =>
  b0Z (X := X) (N' := N') bt ρ M (fun x M1 => D.nx (ρ.set i (some x)) M1) h σ H _ ⟨hr, hh, fun t v M1 H1 k1 h1 r1 q1 => en.nx _ M1 _ H1 k1 ((hr.kp k1).set i r1) h1 q1⟩
noncomputable def a3M (N : List Str) (ts : List T) : En := ts.map some ++ List.replicate (N.length - ts.length) none
theorem b2r {K : PySem.W.Frag} {H : Hp} {N : List Str} {vs : List V} {ts : List T} (r : Reps K H vs ts) : RhoR K (start N vs) H (a3M N ts) := by
 have hl := r.length
 refine ⟨by unfold start a3M; simp [hl], fun i t e => ?_⟩
 unfold a3M at e
 unfold start
 by_cases hi : i < ts.length
 ·rw [List.getElem?_append_left (by simpa using hi), List.getElem?_map] at e
  cases q : ts[i]? with
  | none => rw [q] at e; cases e
  | some u =>
    rw [q] at e
    cases e
    obtain ⟨v, a, b⟩ := r.get q
    refine ⟨v, ?_, b⟩
    rw [List.getElem?_append_left (by simpa [hl] using hi), List.getElem?_map, a]
    rfl
 ·rw [List.getElem?_append_right (by simpa using hi), List.getElem?_replicate] at e
  split at e <;> cases e
noncomputable def rt3 (M : MH) (Q : VK3) : VK3 := fun t M' => ∃ M0, Sub M0 M' ∧ Q t M0
end
section
variable {P : Program} {w : World} {K : PySem.W.Frag} {mg : Str → Option Value} {base : Heap}
theorem Fun.fnk {x qual : Str} {st : Stmt} {f : Addr} {fd : FuncData} {N ps : List Str} {n : Nat} {sp : Sp3} (F : Fun K x qual st f fd) (S : FnScope N ps (a0b st)) (len : ∀ ts M Q, sp ts M Q → ts.length = ps.length)
  (hbody : ∃ t : TS3, (∀ (cdv : Value) (A : Around) (outer : List Env) (s : Shared) (H : Hp) (E : XK), Room n (A.deeper (envOfC qual (a0b st) s.heap.objs.size f cdv)) →
   HSs (cxOf CX0 P w K mg base N qual (a0b st) f cdv A outer s H E).nox (a0w st) t) ∧
   ∀ ts M Q, sp ts M Q → t { nx := fun _ M' => rt3 M Q .non M', rt := rt3 M Q } (a3M N ts) M) : FnOk P w K mg base CX0 (n + 1) f fd ps (dSp K sp) := by
 obtain ⟨t, hbody, rd⟩ := hbody
 refine F.ok S (fun vs H Q E ⟨ts, M, Q3, r, _, q, _⟩ => by rw [r.length]; exact len _ _ _ q) (fun cdv A outer s H vs Q E hr ⟨ts, M, Q3, r, hh, q, en⟩ => ?_)
 refine ⟨_, hbody cdv A outer s H E hr _ _ _ (rd ts M Q3 q), b2r r, hh, ⟨?_, ?_, fun _ _ _ _ _ _ _ z => z.elim, fun _ _ _ _ _ _ _ z => z.elim⟩⟩
 ·rintro ρ' M' σ' H' k hr' hh' ⟨M0, hs, q'⟩
  exact en .non .non M0 H' k (hh'.sub hs) a6e q'
 ·rintro t' v' M' H' k hh' r' ⟨M0, hs, q'⟩
  exact en t' v' M0 H' k (hh'.sub hs) r' q'
theorem Fun.dfn {x qual : Str} {st : Stmt} {f : Addr} {fd : FuncData} {N ps : List Str} {n : Nat} {sp : Sp3} (F : Fun K x qual st f fd) (hm : mg x = some (.ref f)) (hb : a1f K fd ps []) (S : FnScope N ps (a0b st)) (len : ∀ ts M Q, sp ts M Q → ts.length = ps.length)
  (hbody : ∃ t : TS3, (∀ (cdv : Value) (A : Around) (outer : List Env) (s : Shared) (H : Hp) (E : XK), Room n (A.deeper (envOfC qual (a0b st) s.heap.objs.size f cdv)) →
   HSs (cxOf CX0 P w K mg base N qual (a0b st) f cdv A outer s H E).nox (a0w st) t) ∧
   ∀ ts M Q, sp ts M Q → t { nx := fun _ M' => rt3 M Q .non M', rt := rt3 M Q } (a3M N ts) M) : Df P w K mg base (n + 1) x ps sp :=
 ⟨f, fd, F.fnk S len hbody, hm, F.kp, hb⟩
end
theorem b4F {l : PySem.W.OpenLaw} {k : Nat} {q : Program} {loose : List Str} {XP : (Str → Option Value) → Heap → Prop} {YP : World → Heap → Prop} {d : DefRec} {K : Params → PySem.W.Frag} {sp : Sp3}
  (hn : l.most = some 63) (hdf : d.params.defaults = []) (hr : Room k callerA) (hY : ∀ (w : World) (h : Heap), YP w h → (K w.params).In h)
  (hs : ∀ (ns : List Int) M Q, ns.length ≤ 63 → Q (.bl true) M → sp [.rd (ns.map .int)] M Q)
  (F : ∀ (w : World) (mg : Str → Option Value) (fa : Addr) (h : Heap), (K w.params).In h → h.Ns mainGlobals mg → mg d.name = some (.ref fa) →
   ∃ fd : FuncData, (∀ (s : Shared) (u : Value), BindsTo s fd ⟨[u], []⟩ [("script", u)]) ∧ ∀ base : Heap, (K w.params).In base → base.Ns mainGlobals mg → FnOk l.prog w (K w.params) mg base CX0 k fa fd ["script"] (dSp (K w.params) sp)) :
  PySem.W.WalkO q loose XP YP l.row.toRowW d [] (fun f vs => PySem.call f vs) := by
 refine L2.b5A (n := 63) (k := k) (x := "script") (CX := fun _ => CX0) (sp := fun w => dSp (K w.params) sp) hn (by decide) hdf hr hY F (fun w H a ns hl hO hS => ?_) fun _ _ _ _ _ z => z
 have fz : FzL (K w.params) H a (ns.map V.int) := by
  rcases hS with (h | ⟨o, h⟩) | h
  ·rcases hO a with z | ⟨ob, xs, z⟩
   ·rw [h] at z; cases z
   ·rw [h] at z; cases z
  ·exact .inl ⟨o, h⟩
  ·exact .inr h
 refine ⟨[.rd (ns.map .int)], fun _ => none, fun t _ => t = .bl true, .cons ?_ .nil, (fun _ _ z => by cases z), hs ns _ (fun t _ => t = .bl true) hl rfl, fun t v M' H' _ _ r e => ?_⟩
 ·unfold Rep
  exact ⟨a, _, rfl, fz, Reps.of_ints ns⟩
 ·subst e
  exact a3m r
theorem a5U : ∀ {xs : List V} {us : List Value}, xs.length = us.length → (∀ (j : Nat) x, xs[j]? = some x → ∃ u, us[j]? = some u ∧ RelV x u) → Vals xs us
 | [], [], _, _ => .nil
 | [], _ :: _, h, _ => by simp at h
 | _ :: _, [], h, _ => by simp at h
 | x :: xs, u :: us, h, g => by
   refine .cons ?_ (a5U (by simpa using h) fun j y e => ?_)
   ·obtain ⟨w, e, r⟩ := g 0 x rfl
    have : u = w := by simpa using e
    subst this; exact r
   ·obtain ⟨w, e', r⟩ := g (j + 1) y (by simpa using e)
    exact ⟨w, by simpa using e', r⟩
noncomputable def a4x (lo : Int) (n : Nat) : List V := (List.range n).map fun i => V.int (lo + (i : Nat))
theorem a9K {K : PySem.W.Frag} {H : Hp} (lo : Int) (n : Nat) : Reps K H (a4x lo n) (a1j lo n) := by
 have e1 : a4x lo n = ((List.range n).map fun i => lo + ((i : Nat) : Int)).map V.int := by unfold a4x; rw [List.map_map]; rfl
 have e2 : a1j lo n = ((List.range n).map fun i => lo + ((i : Nat) : Int)).map T.int := by unfold a1j; rw [List.map_map]; rfl
 rw [e1, e2]; exact Reps.of_ints _
section
variable {X : Cx} {a b e : Expr} {es : List Expr} {ta te : TE3} {t : TA3} {pos : Pos}
noncomputable def b5h (t : TA3) : TE3 := fun ρ M Q => t ρ M fun xs M1 => match xs with
 | [.int j] => (-(2 ^ 62) ≤ j ∧ j < 2 ^ 24) ∧ ∀ p, M1 p = none → Q (.adr p) (updM M1 p (.lst (a1j 0 j.toNat)))
 | _ => False
theorem a5G {t : TA3} {p p' pos' : Pos} (hm : X.mg "list" = none) (hm' : X.mg "range" = none) (ha : HA X [a] t) (hc : X.calm = true := by rfl) (hg : Gl X "list" := by rfl) (hg' : Gl X "range" := by rfl) (hs : starEach [a] X.env = [(false, eval a X.env)] := by rfl)
  (he : starEach [.Call (.Name "range" p') [a] [] pos'] X.env = (false, eval (.Call (.Name "range" p') [a] [] pos') X.env) :: starEach [] X.env := by rfl) :
  HE X (.Call (.Name "list" p) [.Call (.Name "range" p') [a] [] pos'] [] pos) (b5h t) := by
 intro ρ M Q h pins s σ H Q2 I bb
 obtain ⟨hr, hh, en⟩ := bb
 refine wpAny_Call_Name_kw (a5F I hg hm boot_list ?_ (by decide) (by decide))
 refine PyProof.Rows.callWith_type1 ?_ he rfl
 rw [he]
 refine Calls.spliced_cons ?_
 refine Call_ (a5F I hg' hm' boot_range (PyProof.Rows.callWith_type1 (thn (ha ρ M _ h pos' pins s σ H (fun vs H1 => ∃ j M1, vs = [V.int j] ∧ HR X.K H1 M1 ∧ Kp X.K H H1 ∧ (-(2 ^ 62) ≤ j ∧ j < 2 ^ 24) ∧ ∀ p, M1 p = none → Q (.adr p) (updM M1 p (.lst (a1j 0 j.toNat)))) I
  ⟨hr, hh, fun ts vs M1 H1 k1 h1 r1 q1 => by
   dsimp only at q1
   split at q1
   ·rename_i j
    obtain ⟨v, rfl, rv⟩ := a2z r1
    obtain rfl := a0z rv
    exact ⟨j, M1, rfl, h1, k1, q1.1, q1.2⟩
   ·exact q1.elim⟩) fun us s1 ⟨vs, H1, I1, rv, j, M1, e1, h1, k1, hj, q1⟩ => ?_) hs rfl))
 subst e1
 obtain ⟨u, rfl, t', rfl⟩ := a5k rv
 refine call_range_1 (Calls.spliced_nil ?_)
 have I2 : Inv X pins σ H1 { s1 with heap := s1.heap.push { cls := .type "range", data := .fields #[.int 0 s1.toks, .int j t', .int 1 (s1.toks + 1)] }, toks := s1.toks + 2 } := I1.kept fun b o e => Heap.get?_push_of_some _ e
 have hn : Builtin.Range.rangeSize 0 j 1 = ((j.toNat : Nat) : Int) := by rw [rangeSize_one]; split <;> lia
 refine call_list_range (I1.ok.hd hc) (IsRange.new ..) (small_one (by lia) (by lia) (by lia) (by lia)) hn (by lia) fun h' tk acc' c' kp e ito => ?_
 have hz : j.toNat ≤ sizeLine := by rw [sizeLine_eq]; lia
 have vr : Vals (a4x 0 j.toNat) acc'.toList := by
  refine a5U (by unfold a4x; simp [ito.1]) fun i x ex => ?_
  have hi : i < j.toNat := by have := (List.getElem?_eq_some_iff.mp ex).1; simpa [a4x] using this
  have hi' : i < acc'.size := by rw [ito.1]; exact hi
  have ea : acc'[i]? = some acc'[i] := Array.getElem?_eq_getElem hi'
  obtain ⟨tt, et⟩ := ito.2 i _ ea
  refine ⟨acc'[i], by rw [Array.getElem?_toList]; exact ea, ?_⟩
  unfold a4x at ex
  rw [List.getElem?_map, List.getElem?_range hi] at ex
  have := Option.some.inj ex
  subst this
  exact ⟨tt, by rw [et, Int.mul_one]⟩
 have I3 := I2.laid (a := { s1 with heap := s1.heap.push { cls := .type "range", data := .fields #[.int 0 s1.toks, .int j t', .int 1 (s1.toks + 1)] }, toks := s1.toks + 2 }.heap.objs.size) (o := .lst (a4x 0 j.toNat)) (t' := tk) kp (Nat.le_refl _)
  (show a2J X.prog X.w _ h' _ (.lst (a4x 0 j.toNat)) from ⟨by unfold a4x; simpa using hz, acc'.toList, c', vr, by simpa using e⟩)
 have hf := I2.hok.fresh (Nat.le_refl _)
 exact ⟨.ref _, _, I3, rfl, en _ _ _ _ (k1.trans (Kp.new hf)) (h1.newL hf (a9K 0 j.toNat)) a2G (q1 _ (h1.free hf))⟩
noncomputable def b4K (M : MH) (x : T) : Prop := match x with
 | .adr p => (match M p with | some (.lst _) => True | _ => False)
 | _ => False
noncomputable abbrev RM3 := T → List T → MH → VK3 → Prop
noncomputable def dM (K : PySem.W.Frag) (r : RM3) : V → List V → Hp → VK → Prop := fun v vs H Q2 => ∃ x xs M Q, Rep K H v x ∧ Reps K H vs xs ∧ HR K H M ∧ r x xs M Q ∧ EndE K H Q Q2
noncomputable def MtR3 (X : Cx) (id : String) (r : RM3) : Prop := MtR X id (dM X.K r)
noncomputable def tLM3 (r : RM3) (to : TE3) (t : TA3) : TE3 := fun ρ M Q => to ρ M fun x M1 => b4K M1 x ∧ t ρ M1 fun xs M2 => r x xs M2 Q
theorem b0M {K : PySem.W.Frag} {H : Hp} {M : MH} {x : T} {v : V} (hh : HR K H M) (r : Rep K H v x) (h : b4K M x) : tyV K "list" v H := by
 unfold b4K at h
 split at h
 ·rename_i p
  split at h
  ·rename_i ts e
   obtain ⟨xs, g1, _⟩ := hh _ _ e
   obtain rfl := a0I r
   exact .inl ⟨rfl, xs, SqL.of g1⟩
  ·exact h.elim
 ·exact h.elim
theorem h_lm {o : Expr} {to : TE3} {name : Str} {apos cpos : Pos} {id : String} {r : RM3} (slot : Slot "list" name id) (hty : typeOf (.builtin id) = pure (.type "method_descriptor")) (hm : MtR3 X id r) (ho : HE X o to) (ha : HA X (e :: es) t)
  (hbase : attributeBase o name X.env (eval o X.env) = eval o X.env := by rfl)
  (hfew : ((backTo cpos (starEach (e :: es) X.env)).all (fun x => !x.1) && (backToKw cpos (keywordEach [] X.env)).all (fun x => x.1.isSome)
   && decide ((e :: es).length + ([] : List Keyword).length + (if ([] : List Keyword).isEmpty then 0 else 1) < 30)) = true := by rfl)
  (hline : (apos.endLine == cpos.line) = true := by rfl) (hs : starEach (e :: es) X.env = (false, eval e X.env) :: starEach es X.env := by rfl) (hplain : (backTo cpos (starEach es X.env)).any (·.1) = false := by rfl) :
  HE X (.Call (.Attribute o name apos) (e :: es) [] cpos) (tLM3 r to t) := fun ρ M Q h =>
 (b9q PySem.F.plainAttrs_list slot hty hm (ho.d (ρ := ρ)) (ha.d (ρ := ρ)) hbase hfew hline hs hplain).imp fun σ H Q2 ⟨hr, hh, en⟩ => ⟨M, _, h, hr, hh, fun x v M1 H1 k1 h1 r1 q1 => ⟨b0M h1 r1 q1.1, M1, _, q1.2, hr.kp k1, h1, fun ts vs M2 H2 k2 h2 r2 q2 =>
  ⟨x, ts, M2, Q, Rep.kp k2 _ _ r1, r2, h2, q2, en.kp (k1.trans k2)⟩⟩⟩
noncomputable def b4i : RM3 := fun x xs M Q => match x, xs with
 | .adr p, [y] => (match M p with | some (.lst ts) => ts.length < sizeLine ∧ Q .non (updM M p (.lst (ts ++ [y]))) | _ => False)
 | _, _ => False
theorem b1F : MtR3 X "list.append" b4i := by
 intro pins s σ H v vs u us Q2 I rv rvs h
 obtain ⟨x, xs, M, Q, r1, r2, hh, q, en⟩ := h
 unfold b4i at q
 split at q
 ·rename_i p y
  split at q
  ·rename_i ts e0
   obtain ⟨ys, g1, g2⟩ := hh _ _ e0
   obtain rfl := a0I r1
   obtain ⟨w, rfl, rw'⟩ := a2z r2
   exact b2R pins s σ H _ _ u us Q2 I rv rvs ⟨_, ys, w, rfl, rfl, g1, by rw [g2.length]; exact q.1, en _ _ _ _ (Kp.lst g1) (hh.setL g1 (g2.append (.cons rw' .nil))) a6e q.2⟩
  ·exact q.elim
 ·exact q.elim
noncomputable def a6v : List T → Option (List Int)
 | [] => some []
 | .int i :: ts => (a6v ts).map (i :: ·)
 | _ :: _ => none
theorem a8Y : ∀ (ns : List Int), a6v (ns.map T.int) = some ns
 | [] => rfl
 | n :: ns => by show (a6v (ns.map T.int)).map (n :: ·) = _; rw [a8Y ns]; rfl
theorem a5s : ∀ {ts : List T} {ns : List Int}, a6v ts = some ns → ts = ns.map T.int
 | [], ns, e => by unfold a6v at e; cases e; rfl
 | t :: ts, ns, e => by
   cases t with
   | int i =>
     unfold a6v at e
     cases q : a6v ts with
     | none => rw [q] at e; cases e
     | some cs => rw [q] at e; cases e; rw [a5s q]; rfl
   | _ => unfold a6v at e; cases e
noncomputable def a7P : RM3 := fun x xs M Q => match x, xs with
 | .adr p, [.int k] => (match M p with
   | some (.lst ts) => (match a6v ts with | some ns => k ∈ ns ∧ Q (.int (ns.idxOf k)) M | none => False)
   | _ => False)
 | _, _ => False
theorem b2T : MtR3 X "list.index" a7P := by
 intro pins s σ H v vs u us Q2 I rv rvs h
 obtain ⟨x, xs, M, Q, r1, r2, hh, q, en⟩ := h
 unfold a7P at q
 split at q
 ·rename_i p k
  split at q
  ·rename_i ts e0
   obtain ⟨ys, g1, g2⟩ := hh _ _ e0
   obtain rfl := a0I r1
   obtain ⟨w, rfl, rw'⟩ := a2z r2
   obtain rfl := a0z rw'
   split at q
   ·rename_i ns en'
    have et := a5s en'
    subst et
    obtain rfl := g2.ints
    cases rv
    obtain ⟨w', rfl, tk, rfl⟩ := a5k rvs
    obtain ⟨its, r', pl, hz⟩ := I.list (SqL.of g1)
    have hl := r'.length
    rw [List.length_map] at hl hz
    obtain ⟨o, n, eo, ec, edd, ed⟩ := id pl
    obtain ⟨cls, dd, data, sl⟩ := o
    simp only at ec edd ed
    subst ec edd ed
    have hk : ns.idxOf k < ns.length := List.idxOf_lt_length_iff.mpr q.1
    have item : ∀ (j : Nat) (hj : j < its.toArray.size), ∃ tk', its.toArray[j] = Value.int (ns[j]'(by rw [List.size_toArray, ← hl] at hj; exact hj)) tk' := fun j hj => by
     have hj' : j < ns.length := by rw [List.size_toArray, ← hl] at hj; exact hj
     obtain ⟨w2, e2, tk', rfl⟩ := r'.get (i := j) (x := V.int ns[j]) (by rw [List.getElem?_map, List.getElem?_eq_getElem hj'] <;> rfl)
     have : its[j]? = some its.toArray[j] := by rw [List.getElem?_eq_getElem (by rw [List.size_toArray] at hj; exact hj)] <;> simp
     rw [e2] at this
     exact ⟨tk', (Option.some.inj this).symm⟩
    let ee : Value → Bool := fun v => match v with | .int i _ => i == k | _ => false
    have hsz := sizeLine_eq
    refine call_meets PySem.F.slot_list_index ⟨_, eo, rfl⟩ PySem.F.entry_list_index (PySem.F.args_list_index_2 _ _)
     (SeqAt.list_indexAt p its.toArray n none sl (.int k tk) ee (ns.idxOf k) (by rw [List.size_toArray, ← hl]; exact hk) (by lia) ?_ ?_) ⟨eo, fun y hy => ?_, ?_⟩
    ·obtain ⟨tk', e⟩ := item (ns.idxOf k) (by rw [List.size_toArray, ← hl]; exact hk)
     rw [e]
     show (ns[ns.idxOf k] == k) = true
     simp
    ·intro m hm hlt
     obtain ⟨tk', e⟩ := item m hm
     rw [e]
     show (ns[m]'_ == k) = false
     have := List.not_of_lt_findIdx (p := (· == k)) (xs := ns) (i := m) (by simpa [List.idxOf] using hlt)
     simpa using this
    ·obtain ⟨j, hj, rfl⟩ := Array.getElem_of_mem hy
     obtain ⟨tk', e⟩ := item j hj
     rw [e]
     exact SeqAt.EqAt.int_int _ _ _ _
    ·exact ⟨.int (ns.idxOf k), H, I.tok _, ⟨_, rfl⟩, en _ _ M H Kp.refl hh a0U q.2⟩
   ·exact q.elim
  ·exact q.elim
 ·exact q.elim
theorem a5v {o : Expr} {to : TE3} {apos cpos : Pos} (ho : HE X o to) (ha : HA X (e :: es) t)
  (hbase : attributeBase o "append" X.env (eval o X.env) = eval o X.env := by rfl)
  (hfew : ((backTo cpos (starEach (e :: es) X.env)).all (fun x => !x.1) && (backToKw cpos (keywordEach [] X.env)).all (fun x => x.1.isSome)
   && decide ((e :: es).length + ([] : List Keyword).length + (if ([] : List Keyword).isEmpty then 0 else 1) < 30)) = true := by rfl)
  (hline : (apos.endLine == cpos.line) = true := by rfl) (hs : starEach (e :: es) X.env = (false, eval e X.env) :: starEach es X.env := by rfl) (hplain : (backTo cpos (starEach es X.env)).any (·.1) = false := by rfl) :
  HE X (.Call (.Attribute o "append" apos) (e :: es) [] cpos) (tLM3 b4i to t) := h_lm PySem.F.slot_list_append PySem.F.type_list_append b1F ho ha hbase hfew hline hs hplain
end
end L2
namespace LM
noncomputable def LetOK (n l : Int) : Prop := 1 ≤ (l.natAbs : Int) ∧ (l.natAbs : Int) < n
noncomputable def WordOK (n : Int) (w : List Int) : Prop := ∀ l ∈ w, LetOK n l
noncomputable def a5O (n l : Int) : Bool := decide (1 ≤ l.natAbs) && decide ((l.natAbs : Int) < n)
noncomputable def isPl (n : Int) (w : List Int) : Bool := decide (1 ≤ n) && decide (n ≤ 6) && decide (w.length ≤ 16) && w.all (a5O n)
noncomputable def PlOK (n : Int) (w : List Int) : Prop := 1 ≤ n ∧ n ≤ 6 ∧ w.length ≤ 16 ∧ WordOK n w
theorem a3f {n l : Int} : a5O n l = true ↔ LetOK n l := by
 unfold a5O LetOK
 simp only [Bool.and_eq_true, decide_eq_true_eq]
 lia
theorem PlOK.is {n : Int} {w : List Int} (h : PlOK n w) : isPl n w = true := by
 obtain ⟨h1, h2, h3, h4⟩ := h
 unfold isPl
 simp only [Bool.and_eq_true, decide_eq_true_eq, List.all_eq_true]
 exact ⟨⟨⟨h1, h2⟩, h3⟩, fun l hl => a3f.mpr (h4 l hl)⟩
theorem WordOK.nil {n : Int} : WordOK n [] := fun _ z => nomatch z
theorem WordOK.append {n : Int} {u v : List Int} (h : WordOK n u) (g : WordOK n v) : WordOK n (u ++ v) := fun l hl => (List.mem_append.mp hl).elim (h l) (g l)
theorem a0H {α β : Type} (f : α → β) {L : List α} {i : Nat} {x : α} (h : L[i]? = some x) : (L.take i).map f ++ [f x] = (L.take (i + 1)).map f := by
 rw [List.take_add_one, h]; simp
theorem a0B {α β : Type} {f : α → β} {L : List α} {i : Nat} {y : β} (h : (L.map f)[i]? = some y) : ∃ x, L[i]? = some x ∧ f x = y := by
 rw [List.getElem?_map] at h
 cases q : L[i]? with
 | none => rw [q] at h; cases h
 | some x => rw [q] at h; exact ⟨x, rfl, Option.some.inj h⟩
noncomputable def a0l (n : Int) : List Int := (List.range n.toNat).map fun i => ((i : Nat) : Int)
theorem a0p (n : Int) : (a0l n).length = n.toNat := by unfold a0l; simp
theorem a7h {n s : Int} (h : s ∈ a0l n) : 0 ≤ s ∧ s < n := by
 unfold a0l at h
 obtain ⟨i, hi, rfl⟩ := List.mem_map.mp h
 have := List.mem_range.mp hi
 lia
theorem range0_get (n : Int) (s : Int) (h0 : 0 ≤ s) (h1 : s < n) : (a0l n).getD s.toNat 0 = s := by
 unfold a0l
 rw [List.getD_eq_getElem?_getD, List.getElem?_map, List.getElem?_range (by lia)]
 show ((s.toNat : Nat) : Int) = s
 lia
theorem a3S (n : Int) : (a0l n).Nodup := by
 unfold a0l
 refine List.Pairwise.map _ (fun (a b : Nat) (h : a ≠ b) => ?_) List.nodup_range
 show (a : Int) ≠ (b : Int)
 lia
noncomputable def a1C (w : List Int) : List Int := w.reverse.map fun l => -l
noncomputable def a3w (n l : Int) : Int := if l < 0 then -(n + l) else n - l
theorem LetOK.neg {n l : Int} (h : LetOK n l) : LetOK n (-l) := by unfold LetOK at *; lia
theorem LetOK.flip {n l : Int} (h : LetOK n l) : LetOK n (a3w n l) := by unfold LetOK a3w at *; split <;> lia
theorem WordOK.map {n : Int} {w : List Int} {f : Int → Int} (hf : ∀ l, LetOK n l → LetOK n (f l)) (h : WordOK n w) : WordOK n (w.map f) := fun l hl => by
 obtain ⟨k, hk, rfl⟩ := List.mem_map.mp hl
 exact hf k (h k hk)
theorem WordOK.reverse {n : Int} {w : List Int} (h : WordOK n w) : WordOK n w.reverse := fun l hl => h l (List.mem_reverse.mp hl)
theorem WordOK.contr {n : Int} {w : List Int} (h : WordOK n w) : WordOK n (a1C w) := h.reverse.map fun _ => LetOK.neg
theorem PlOK.map {n : Int} {w : List Int} {f : Int → Int} (hf : ∀ l, LetOK n l → LetOK n (f l)) (h : PlOK n w) : PlOK n (w.map f) := ⟨h.1, h.2.1, by rw [List.length_map]; exact h.2.2.1, h.2.2.2.map hf⟩
theorem b1q {n s : Int} (h0 : 0 ≤ s) (h1 : s < n) : s ∈ a0l n := by
 unfold a0l
 exact List.mem_map.mpr ⟨s.toNat, List.mem_range.mpr (by lia), by lia⟩
theorem b4D {f : Int → Int} {w : List Int} (h : ∀ l ∈ w, f l = l) : w.map f = w := by
 conv => rhs; rw [← List.map_id w]
 exact List.map_congr_left h
theorem a9X (w : List Int) : (w.map fun l => -l).map (fun l => -l) = w := by
 rw [List.map_map]
 exact b4D fun l _ => Int.neg_neg l
theorem a9j (w : List Int) : a1C (a1C w) = w := by
 unfold a1C
 rw [← List.map_reverse, List.reverse_reverse]
 exact a9X w
theorem LetOK.ne {n l : Int} (h : LetOK n l) : l ≠ 0 := by unfold LetOK at h; lia
noncomputable def b9a (st : List Int) (l : Int) : List Int := match st with
 | [] => [l]
 | x :: t => if x = -l then t else l :: x :: t
noncomputable def redS (st w : List Int) : List Int := w.foldl b9a st
noncomputable def redL (w : List Int) : List Int := (redS [] w).reverse
noncomputable def Red : List Int → Prop
 | [] => True
 | [_] => True
 | x :: y :: t => x ≠ -y ∧ Red (y :: t)
theorem Red.tail {x : Int} {t : List Int} (h : Red (x :: t)) : Red t := by
 cases t with
 | nil => trivial
 | cons y t => exact h.2
theorem b0l (l : Int) (w : List Int) : a1C (l :: w) = a1C w ++ [-l] := by unfold a1C; rw [List.reverse_cons, List.map_append]; rfl
theorem Red.get : ∀ {s : List Int} (j : Nat), Red s → j + 1 < s.length → s.getD j 0 + s.getD (j + 1) 0 ≠ 0
 | [], _, _, h => by simp at h
 | [_], j, _, h => by simp at h
 | x :: y :: t, 0, h, _ => by
   have := h.1
   show x + y ≠ 0
   lia
 | x :: y :: t, j + 1, h, hj => by
   have := Red.get (s := y :: t) j h.2 (by simpa using hj)
   exact this
theorem a5I (s : List Int) (k : Nat) (h : k < s.length) : s.reverse.getD k 0 = s.getD (s.length - 1 - k) 0 := by
 rw [List.getD_eq_getElem?_getD, List.getD_eq_getElem?_getD, List.getElem?_reverse h]
theorem Red.of_get : ∀ {s : List Int}, (∀ j, j + 1 < s.length → s.getD j 0 + s.getD (j + 1) 0 ≠ 0) → Red s
 | [], _ => trivial
 | [_], _ => trivial
 | x :: y :: t, h => by
   refine ⟨?_, Red.of_get fun j hj => h (j + 1) (by simpa using hj)⟩
   have : x + y ≠ 0 := h 0 (by simp)
   lia
theorem Red.reverse {s : List Int} (h : Red s) : Red s.reverse := Red.of_get fun j hj => by
 rw [List.length_reverse] at hj
 rw [a5I s j (by lia), a5I s (j + 1) hj]
 have := Red.get (s := s) (s.length - 1 - (j + 1)) h (by lia)
 have e2 : s.length - 1 - (j + 1) + 1 = s.length - 1 - j := by lia
 rw [e2] at this
 lia
noncomputable def Eqv (u v : List Int) : Prop := redL u = redL v
theorem Eqv.refl {u : List Int} : Eqv u u := rfl
theorem Eqv.symm {u v : List Int} (h : Eqv u v) : Eqv v u := Eq.symm h
theorem Eqv.trans {u v w : List Int} (h : Eqv u v) (g : Eqv v w) : Eqv u w := Eq.trans h g
noncomputable def mkL (l : Int) (x : Int) : List Int :=
 let i : Int := l.natAbs
 let a : List Int := if l > 0 then [i, i + 1, -i] else [i + 1]
 let b : List Int := if l > 0 then [i] else [-(i + 1), i, i + 1]
 if x = i then a else if x = i + 1 then b else if x = -i then a1C a else if x = -(i + 1) then a1C b else [x]
noncomputable def subW (w : List Int) (u : List Int) : List Int := w.foldl (fun u l => u.flatMap (mkL l)) u
noncomputable def NZ (w : List Int) : Prop := ∀ l ∈ w, l ≠ 0
theorem NZ.tail {l : Int} {w : List Int} (h : NZ (l :: w)) : NZ w := fun x hx => h x (List.mem_cons_of_mem _ hx)
theorem NZ.head {l : Int} {w : List Int} (h : NZ (l :: w)) : l ≠ 0 := h l List.mem_cons_self
noncomputable def imgL (w : List Int) (j : Int) : List Int := redL (subW w [j])
noncomputable def rowL (k : Nat) : List Int := (List.range k).map fun i => ((i : Nat) : Int) + 1
noncomputable def a8v (w v : List Int) : Prop := ∀ u, Eqv (subW w u) (subW v u)
theorem a8v.refl {w : List Int} : a8v w w := fun _ => Eqv.refl
theorem a8v.symm {w v : List Int} (h : a8v w v) : a8v v w := fun u => (h u).symm
theorem a8v.trans {w v x : List Int} (h : a8v w v) (g : a8v v x) : a8v w x := fun u => (h u).trans (g u)
end LM
namespace L2
open PySem PySem.Spec PyProof.Rows LM
theorem a9D (x : Str) (N : List Str) (t : T) (ts : List T) : a3M (x :: N) (t :: ts) = some t :: a3M N ts := by
 unfold a3M
 simp only [List.map_cons, List.length_cons, Nat.add_sub_add_right, List.cons_append]
theorem a9C (x : Str) (N : List Str) : a3M (x :: N) [] = none :: a3M N [] := by
 unfold a3M
 simp only [List.map_nil, List.length_cons, List.length_nil, Nat.sub_zero, List.nil_append, List.replicate_succ]
theorem b1n : a3M [] [] = [] := rfl
theorem b1v (ix : List (Option Nat)) (ρ : En) : a7Q (none :: ix) ρ = none :: a7Q ix ρ := rfl
theorem b1u (j : Nat) (ix : List (Option Nat)) (ρ : En) : a7Q (some j :: ix) ρ = (ρ[j]?).join :: a7Q ix ρ := rfl
theorem b2x (ρ : En) : a7Q [] ρ = [] := rfl
theorem b3c {α : Type} (a : Option α) : (some a).join = a := rfl
theorem a0m {M : MH} {Q : VK3} {t : T} {M' : MH} (h : Q t M') : rt3 M Q t M' := ⟨M', Sub.refl, h⟩
theorem b1V {α : Type} (x : α) (xs : List α) : atI (x :: xs) 0 = some x := by
 have := a2k (xs := x :: xs) (j := 0) (v := x) rfl
 simpa using this
theorem b5a {α : Type} (x y : α) (xs : List α) : atI (x :: y :: xs) 1 = some y := by
 have := a2k (xs := x :: y :: xs) (j := 1) (v := y) rfl
 simpa using this
theorem b9L {α : Type} (x y z : α) (xs : List α) : atI (x :: y :: z :: xs) 2 = some z := by
 have := a2k (xs := x :: y :: z :: xs) (j := 2) (v := z) rfl
 simpa using this
theorem b9B (n : Nat) : ixN (n + 1) 0 = some 0 := by
 unfold ixN
 rw [if_pos (by lia), if_pos (by lia)]; rfl
theorem a3s {M : MH} {a : Addr} {o u : MO} : updM (updM M a o) a u = updM M a u := by
 funext b; unfold updM; split <;> rfl
theorem a8t (ns : List Int) (i : Int) (h0 : 0 ≤ i) (h : i < ns.length) : atI (ns.map T.int) i = some (.int (ns.getD i.toNat 0)) := by
 have e : i = ((i.toNat : Nat) : Int) := by lia
 have hl : i.toNat < ns.length := by lia
 have := a2k (xs := ns.map T.int) (j := i.toNat) (v := .int (ns.getD i.toNat 0)) (by
  rw [List.getElem?_map, List.getElem?_eq_getElem hl]
  simp [List.getD, List.getElem?_eq_getElem hl])
 rw [← e] at this
 exact this
theorem a4b (bs : List Bool) : a8s (bs.map T.bl) = some bs := by
 induction bs with
 | nil => rfl
 | cons b bs ih => show (a8s (bs.map T.bl)).map (b :: ·) = _; rw [ih]; rfl
theorem a3e (ns : List Int) : a2a (ns.map T.int) = true := by
 induction ns with
 | nil => rfl
 | cons n ns ih => show (a0G (.int n) && a2a (ns.map T.int)) = true; rw [ih]; rfl
theorem a5x (ns : List Int) : a4M (ns.map T.int) = 0 := by
 induction ns with
 | nil => rfl
 | cons n ns ih => show max (depT (.int n)) (a4M (ns.map T.int)) = 0; rw [ih]; rfl
theorem a6C (a b : List Int) : eqTs (a.map T.int) (b.map T.int) = decide (a = b) := by
 induction a generalizing b with
 | nil => cases b <;> simp [eqTs]
 | cons x a ih =>
   cases b with
   | nil => simp [eqTs]
   | cons y b =>
     show (eqT (.int x) (.int y) && eqTs (a.map T.int) (b.map T.int)) = _
     rw [ih]
     have : eqT (.int x) (.int y) = (x == y) := rfl
     rw [this]
     by_cases h1 : x = y <;> by_cases h2 : a = b <;> simp [h1, h2]
theorem b3r (a b : List T) : eqT (.tup a) (.tup b) = eqTs a b := rfl
theorem a3q (a b : Int) : eqT (.int a) (.int b) = decide (a = b) := by
 show (a == b) = _
 by_cases h : a = b <;> simp [h]
theorem b3q (x y : T) (a b : List T) : eqTs (x :: a) (y :: b) = (eqT x y && eqTs a b) := rfl
theorem b4S : eqTs [] [] = true := rfl
theorem a6f (x : T) (a : List T) : a2a (x :: a) = (a0G x && a2a a) := rfl
theorem b1r : a2a [] = true := rfl
theorem a4X (i : Int) : a0G (.int i) = true := rfl
theorem b4k (i : Bool) : a0G (.bl i) = true := rfl
theorem a6g (i : List T) : a0G (.tup i) = a2a i := rfl
theorem a5f (i : Int) : depT (.int i) = 0 := rfl
theorem b6V (i : Bool) : depT (.bl i) = 0 := rfl
theorem b0V (i : List T) : depT (.tup i) = a4M i + 1 := rfl
theorem a7r (x : T) (a : List T) : a4M (x :: a) = max (depT x) (a4M a) := rfl
theorem b3y : a4M [] = 0 := rfl
theorem a3P {M : MH} {p : Addr} {o : MO} (h : M p = some o) : updM M p o = M := by
 funext b; unfold updM; split
 ·rename_i e; rw [e, h]
 ·rfl
theorem Sub.set {M M' : MH} {p : Addr} {o u : MO} (h : Sub (updM M p o) M') : Sub (updM M p u) (updM M' p u) := fun a v e => by
 by_cases ha : a = p
 ·subst ha; rw [a0d] at e ⊢; exact e
 ·rw [a0k ha] at e ⊢
  exact h a v (by rw [a0k ha]; exact e)
theorem Sub.newr {M M' : MH} {r : Addr} {o : MO} (h : Sub M M') (hr : M' r = none) : Sub M (updM M' r o) := h.trans (Sub.new hr)
theorem a0v {M : MH} {Q : VK3} {t : T} {M0 M' : MH} (h : Q t M0) (s : Sub M0 M') : rt3 M Q t M' := ⟨M0, s, h⟩
theorem a4I {n : Nat} {k : Int} (h0 : 0 ≤ k) (h : k < n) : ixN n k = some k.toNat := by
 unfold ixN
 rw [if_pos h0, if_pos h]
theorem a0i (a : Int) (n : Nat) : (a1j a n).length = n := by unfold a1j; simp
theorem Sub.updF {M M' : MH} {p : Addr} {o : MO} (h : Sub M M') (hp : M p = none) : Sub M (updM M' p o) := fun a v e => by
 have ha : a ≠ p := by rintro rfl; rw [hp] at e; cases e
 rw [a0k ha]; exact h a v e
end L2
namespace L2
open PySem PySem.Spec PyProof.Rows
section
variable {prog : Program} {w : World} {A : Around} {E : Value → Shared → Prop} {s : Shared}
end
section
variable {X : Cx}
end
theorem a1Q {n i : Nat} {x : T} (h : (a1j 0 n)[i]? = some x) : i < n ∧ x = .int i := by
 have hl := (List.getElem?_eq_some_iff.mp h).1
 rw [a0i] at hl
 unfold a1j at h
 rw [List.getElem?_map, List.getElem?_range hl] at h
 have e := Option.some.inj h
 refine ⟨hl, ?_⟩
 rw [← e]
 simp
theorem a0E {n : Nat} (h : n < 10000) : n < sizeLine := Nat.lt_of_le_of_lt (by lia : n ≤ 10000) (by decide)
theorem a1q {n : Nat} (h : n < 10000) : n ≤ sizeLine := Nat.le_of_lt (a0E h)
end L2
namespace HT
open PySem PySem.Spec PyProof.Rows
section
variable {prog : Program} {w : World} {A : Around} {E : Value → Shared → Prop} {s : Shared}
theorem getItem_tuple_all {t sl : Addr} {items : Array Value} {vl vu : Value} {lo hi : Option Int} {Q : Value → Shared → Prop} (ht : IsTup s.heap t items) (hs : s.heap.IsSliceOf sl vl vu .none) (pl : IsPart vl lo) (pu : IsPart vu hi)
  (hw : sIx items.size 0 lo = 0 ∧ sIx items.size items.size hi = items.size) (h : Q (.ref t) s)
  (hsz : items.size ≤ sizeLine) : wpAny (model prog w) A (getItem (.ref t) (.ref sl)) Q E s := by
 obtain ⟨os, hos, hcs, hds⟩ := id hs
 have hTs : s.TypeIs (.ref sl) "slice" := ⟨os, hos, hcs⟩
 unfold getItem
 try with_reducible refine wpAny_holding ?_
 first | refine wpAny_bind (wpAny_pure ?_) | skip
 refine wpAny_bind (wpAny_sequenceKey ht.typeIs (by decide) ?_)
 refine wpAny_bind (wpAny_callSpecial?_slot (name := Str.ofString "__getitem__") ht.typeIs PyProof.Rows.slot_tuple_getitem
  (wpAny_call_entry PyProof.Rows.slot_tuple_getitem ht.typeIs entry_tuple_getitem ?_ (args_tuple_getitem _ _)))
 show wpAny _ _ (Builtin.Tuple.tupleItemsOf (.ref t) >>= _) _ _ s
 refine wpAny_bind (tupleItemsOf_ ht ?_)
 refine wpAny_bind (wpAny_typeOf hTs ?_)
 rw [if_pos (by decide)]
 refine wpAny_bind (a3N hs pl pu ?_)
 have hyes : (((sIx items.size 0 lo : Nat) : Int) == 0 && (1 : Int) == 1 && (sIx items.size items.size hi - sIx items.size 0 lo) == items.size) = true := by
  rw [hw.1, hw.2]
  simp
 show wpAny _ _ (if (((sIx items.size 0 lo : Nat) : Int) == 0 && (1 : Int) == 1 && (sIx items.size items.size hi - sIx items.size 0 lo) == items.size) = true then _ else _) _ _ s
 rw [if_pos hyes]
 refine wpAny_bind (m := Builtin.Tuple.tupleIsExact (.ref t)) (wpAny_bind (wpAny_typeOf ht.typeIs (wpAny_pure ?_)))
 rw [if_pos (by decide)]
 refine wpAny_bind (wpAny_rule ?_)
 first
  | exact wpAny_pure ⟨_, rfl, wpAny_pure h⟩
  | exact wpAny_bind (wpAny_pure (wpAny_pure ⟨_, rfl, wpAny_pure h⟩))
end
end HT
namespace L2
open PySem PySem.Spec PyProof.Rows
section
variable {X : Cx}
noncomputable def cutT (xs : List T) (lo hi : Option Int) : List T := (xs.drop (HT.sIx xs.length 0 lo)).take (HT.sIx xs.length xs.length hi - HT.sIx xs.length 0 lo)
noncomputable def b9f (K : PySem.W.Frag) : V → Option Int → Option Int → Hp → VK → Prop := fun x lo hi H Q => ∃ a xs, x = .ref a ∧ SqT K H a xs ∧
 ∀ p H', SqT K H' p (cutV xs lo hi) → (H' = H ∨ H p = none ∧ H' = upd H p (.tup (cutV xs lo hi))) → Q (.ref p) H'
theorem b5O : SlR X (b9f X.K) := by
 intro pins s σ H x v vl vu lo hi sl Q I rx hs pl pu h
 obtain ⟨a, xs, rfl, hx, q⟩ := h
 by_cases hw : HT.sIx xs.length 0 lo = 0 ∧ HT.sIx xs.length xs.length hi = xs.length
 ·cases rx
  obtain ⟨its, r, ht, hz⟩ := I.tuple hx
  have hlen : its.toArray.size = xs.length := by rw [List.size_toArray]; exact r.length.symm
  refine ⟨"tuple", _, PyProof.Rows.slot_tuple_getitem.lookup, ht.typeIs, ?_⟩
  refine HT.getItem_tuple_all ht hs pl pu (by rw [hlen]; exact hw) ?_ (by rw [hlen]; exact hz)
  have e : cutV xs lo hi = xs := by
   unfold cutV
   rw [hw.1, hw.2]
   simp
  exact ⟨.ref a, H, I, rfl, q a H (by rw [e]; exact hx) (.inl rfl)⟩
 ·exact b7z pins s σ H _ v vl vu lo hi sl Q I rx hs pl pu ⟨a, xs, rfl, hx, hw, fun p hp => q p _ (SqT.of a0O) (.inr ⟨hp, rfl⟩)⟩
theorem Reps.cut {K : PySem.W.Frag} {H : Hp} {xs : List V} {ts : List T} (r : Reps K H xs ts) (lo hi : Option Int) : Reps K H (cutV xs lo hi) (cutT ts lo hi) := by
 unfold cutV cutT
 rw [r.length]
 exact (r.drop _).take _
noncomputable abbrev TO3 := En → MH → (Option Int → MH → Prop) → Prop
noncomputable def HPo (X : Cx) (e : Option Expr) (t : TO3) : Prop := ∀ ρ M Q, t ρ M Q → PO X e (fun σ H Q2 => RhoR X.K σ H ρ ∧ HR X.K H M ∧ ∀ o M' H', Kp X.K H H' → HR X.K H' M' → Q o M' → Q2 o H')
noncomputable def dPo (K : PySem.W.Frag) (ρ : En) (t : TO3) : TO := fun σ H Q2 => ∃ M Q, t ρ M Q ∧ RhoR K σ H ρ ∧ HR K H M ∧ ∀ o M' H', Kp K H H' → HR K H' M' → Q o M' → Q2 o H'
theorem HPo.d {e : Option Expr} {t : TO3} {ρ : En} (h : HPo X e t) : PO X e (dPo X.K ρ t) := fun pins s σ H Q I ⟨M, Q3, q, b⟩ => h ρ M Q3 q pins s σ H Q I b
theorem PO.imp {e : Option Expr} {w w' : TO} (h : PO X e w) (f : ∀ σ H Q, w' σ H Q → w σ H Q) : PO X e w' := fun pins s σ H Q I q => h pins s σ H Q I (f σ H Q q)
noncomputable def tNo3 : TO3 := fun ρ M Q => Q none M
noncomputable def tPt3 (t : TE3) : TO3 := fun ρ M Q => t ρ M fun x M1 => match x with
 | .int i => Q (some i) M1
 | _ => False
theorem a4y : HPo X none tNo3 := fun ρ M Q h => b6s.imp fun σ H Q2 ⟨hr, hh, en⟩ => en _ _ _ Kp.refl hh h
theorem a3l {e : Expr} {t : TE3} (he : HE X e t) : HPo X (some e) (tPt3 t) := fun ρ M Q h => (b6r (he.d (ρ := ρ))).imp fun σ H Q2 ⟨hr, hh, en⟩ =>
 ⟨M, _, h, hr, hh, fun x v M1 H1 k1 h1 r1 q1 => by
  dsimp only at q1
  split at q1
  ·obtain rfl := a0z r1
   exact ⟨_, rfl, en _ _ _ k1 h1 q1⟩
  ·exact q1.elim⟩
noncomputable def rSlS : V → Option Int → Option Int → Hp → VK → Prop := fun x lo hi H Q => ∃ z, x = .str z ∧ z.length ≤ sizeLine ∧ Q (.str (Txt.slice z lo hi)) H
theorem b7A : SlR X rSlS := by
 intro pins s σ H x v vl vu lo hi sl Q I rx hs pl pu h
 obtain ⟨z, rfl, hz, q⟩ := h
 obtain ⟨t, rfl⟩ := rx
 refine ⟨"str", _, F.slot_str_getitem.lookup, typeIs_str _ _ _, ?_⟩
 have fin : ∀ t' k, EP X pins σ Q (.str (Txt.slice z lo hi) t') { s with toks := k } := fun t' k => ⟨.str _, H, I.kept fun b o e => e, ⟨_, rfl⟩, q⟩
 have hl : (Txt.slice z lo hi).length ≤ sizeLine := Nat.le_trans (Txt.slice_le z _ _) hz
 cases pl with
 | none => cases pu with
   | none => exact wpAny_getItem_str_slice (l := none) (u := none) (st := none) hs rfl (post_val_or_str ⟨hl, fin⟩)
   | int j uj => exact wpAny_getItem_str_slice (l := none) (u := some (j, uj)) (st := none) hs rfl (post_val_or_str ⟨hl, fin⟩)
 | int i ui => cases pu with
   | none => exact wpAny_getItem_str_slice (l := some (i, ui)) (u := none) (st := none) hs rfl (post_val_or_str ⟨hl, fin⟩)
   | int j uj => exact wpAny_getItem_str_slice (l := some (i, ui)) (u := some (j, uj)) (st := none) hs rfl (post_val_or_str ⟨hl, fin⟩)
noncomputable def tSl3 (te : TE3) (tl th : TO3) : TE3 := fun ρ M Q => te ρ M fun x M1 => tl ρ M1 fun l M2 => th ρ M2 fun u M3 => match x with
 | .tup ts => Q (.tup (cutT ts l u)) M3
 | .adr p => (match M3 p with
   | some (.lst ts) => ∀ r, M3 r = none → Q (.adr r) (updM M3 r (.lst (cutT ts l u)))
   | _ => False)
 | .str z => z.length ≤ sizeLine ∧ Q (.str (Txt.slice z l u)) M3
 | _ => False
theorem a2H {e : Expr} {lo hi : Option Expr} {te : TE3} {tl th : TO3} {pos p2 : Pos} (he : HE X e te) (hl : HPo X lo tl) (hu : HPo X hi th) : HE X (.Subscript e (.Slice lo hi none p2) pos) (tSl3 te tl th) := fun ρ M Q h =>
 (b4p ((b5O.or b5P).or b7A) (he.d (ρ := ρ)) (hl.d (ρ := ρ)) (hu.d (ρ := ρ))).imp fun σ H Q2 ⟨hr, hh, en⟩ =>
  ⟨M, _, h, hr, hh, fun x v M1 H1 k1 h1 r1 q1 => ⟨M1, _, q1, hr.kp k1, h1, fun l M2 H2 k2 h2 q2 => ⟨M2, _, q2, hr.kp (k1.trans k2), h2, fun u M3 H3 k3 h3 q3 => by
   have r3 := Rep.kp (k2.trans k3) _ _ r1
   have k13 := (k1.trans k2).trans k3
   split at q3
   ·rename_i ts
    obtain ⟨a, xs, rfl, g1, g2⟩ := a1n r3
    refine .inl (.inl ⟨a, xs, rfl, g1, fun p H' h' c => ?_⟩)
    rcases c with rfl | ⟨c1, rfl⟩
    ·exact en _ _ _ _ k13 h3 (a2F h' (g2.cut l u)) q3
    ·exact en _ _ _ _ (k13.trans (Kp.new c1)) (h3.keep c1) (a2F h' (Reps.kp (Kp.new c1) _ _ (g2.cut l u))) q3
   ·obtain rfl := a0I r3
    split at q3
    ·rename_i ts e0
     obtain ⟨xs, g1, g2⟩ := h3 _ _ e0
     refine .inl (.inr ⟨_, xs, rfl, SqL.of g1, fun p hp => ?_⟩)
     exact en _ _ _ _ (k13.trans (Kp.new hp)) (h3.newL hp (g2.cut l u)) a2G (q3 p (h3.free hp))
    ·exact q3.elim
   ·obtain rfl := a3p r3
    exact .inr ⟨_, rfl, q3.1, en _ _ _ _ k13 h3 a7I q3.2⟩
   ·exact q3.elim⟩⟩⟩
end
end L2
namespace HT
open PySem PySem.Spec PyProof.Rows
section
variable {prog : Program} {w : World} {A : Around} {E : Value → Shared → Prop} {s : Shared}
end
end HT
namespace L2
open PySem PySem.Spec PyProof.Rows
section
variable {X : Cx}
end
section
variable {X : Cx}
end
section
variable {X : Cx}
end
section
variable {X : Cx}
end
section
variable {X : Cx} {es : List Expr} {e : Expr} {t : TA3}
end
section
variable {X : Cx} {es : List Expr} {e : Expr} {t : TA3}
noncomputable def b5L : List T → Option (List Str)
 | [] => some []
 | .str i :: ts => (b5L ts).map (i :: ·)
 | _ :: _ => none
theorem a8z : ∀ (ns : List Str), b5L (ns.map T.str) = some ns
 | [] => rfl
 | n :: ns => by show (b5L (ns.map T.str)).map (n :: ·) = _; rw [a8z ns]; rfl
end
section
variable {prog : Program} {w : World} {A : Around} {E : Value → Shared → Prop} {s : Shared}
end
section
open AutoSeq1 (wpAny_loadPart')
open SeqAt (EqAt)
theorem a5T {M : Model} {A : Around} {E : Value → Shared → Prop} {s : Shared} {β : Type} (f : Nat → β → Sem (ForInStep β)) (I : List Nat → β → Shared → Prop) (Q : β → Shared → Prop)
  (turn : ∀ x rest b s, I (x :: rest) b s → wpAny M A (f x b) (fun r s' => match r with | .yield b' => I rest b' s' | .done b' => Q b' s') E s)
  (fin : ∀ b s, I [] b s → Q b s) (r : Std.Legacy.Range) (b : β) (h : I (List.range' r.start r.size r.step) b s) : wpAny M A (forIn r b f) Q E s := by
 rw [Std.Legacy.Range.forIn_eq_forIn_range']
 exact wpAny_forIn_list f I Q turn fin _ b h
theorem a7y (l : Addr) (items : Array Value) (n : Nat) (dd : Option Addr) (sl : Array (Option Value)) (x : Value) (e : Value → Bool) (j : Nat) (hj : j < items.size) (hit : e items[j] = true) (hno : ∀ m (hm : m < items.size), m < j → e items[m] = false) :
  Meets (Builtin.«tuple.index» ⟨[.ref l, x], []⟩)
   (fun A R s => s.heap.get? l = some { cls := .type "tuple", dict := dd, data := .seq items n, slots := sl } ∧ (∀ y, y ∈ items → EqAt A.in1 s y x (e y)) ∧ R (.ok (.ret (.int j s.toks))) { s with toks := s.toks + 1 }) :=
 .of_wp fun prog w A R s h => by
  obtain ⟨hp, g, d, tk, os⟩ := s; obtain ⟨hl, he, h⟩ := h
  wp_walk using wpAny_loadPart' hl, a5T _ (fun rest b s' => b.1 = none ∧ s' = ⟨hp, g, d, tk, os⟩ ∧ ∃ i, i ≤ j ∧ rest = List.range' i (items.size - i)) _
  case turn =>
   rintro y rest b s' ⟨hb, rfl, i, hij, hr⟩
   have hsz : items.size - i = (items.size - (i + 1)) + 1 := by lia
   rw [hsz, List.range'_succ] at hr
   injection hr with hy hr
   subst hy
   have hys : y < items.size := by lia
   rw [Array.getElem?_eq_getElem hys]
   refine wpAny_bind (he items[y] (Array.getElem_mem hys) prog w _ _ ?_)
   by_cases hyj : y = j
   ·subst hyj
    rw [hit]
    wp_walk
    exact ⟨_, rfl, h⟩
   ·rw [hno y hys (by lia)]
    wp_walk
    exact ⟨rfl, rfl, y + 1, by lia, hr⟩
  case fin =>
   rintro ⟨b1, b2⟩ s' ⟨hb, rfl, i, hij, hr⟩
   exfalso
   have : (List.range' i (items.size - i)).length = 0 := by rw [← hr]; rfl
   rw [List.length_range'] at this
   lia
  case h =>
   refine ⟨rfl, rfl, 0, Nat.zero_le _, ?_⟩
   simp [Std.Legacy.Range.size]
end
section
variable {X : Cx} {a b e : Expr} {es : List Expr} {ta te : TE3} {t : TA3} {pos : Pos}
noncomputable def b6I (M : MH) (x : T) : Prop := match x with
 | .adr p => (match M p with | some (.lst _) => True | _ => False)
 | .tup _ => True
 | _ => False
noncomputable def a9M : RM3 := fun x xs M Q => match x, xs with
 | .adr p, [.int k] => (match M p with
   | some (.lst ts) => (match a6v ts with | some ns => k ∈ ns ∧ Q (.int (ns.idxOf k)) M | none => False)
   | _ => False)
 | .tup ts, [.int k] => (match a6v ts with | some ns => k ∈ ns ∧ Q (.int (ns.idxOf k)) M | none => False)
 | _, _ => False
theorem b1D (pins : List (Addr × Obj)) (s : Shared) (σ : St) (H : Hp) (v : V) (k : Int) (u : Value) (us : List Value) (ns : List Int) (M : MH) (Q : VK3) (Q2 : VK) (I : Inv X pins σ H s) (rv : RelV v u) (rvs : Vals [.int k] us) (r1 : Rep X.K H v (.tup (ns.map T.int))) (hh : HR X.K H M)
  (en : EndE X.K H Q Q2) (hk : k ∈ ns) (q : Q (.int (ns.idxOf k)) M) : wpAny (model X.prog X.w) X.A (call (.builtin "tuple.index") (u :: us)) (EP X pins σ Q2) X.xe s := by
 obtain ⟨p, ys, rfl, g1, g2⟩ := a1n r1
 obtain rfl := g2.ints
 cases rv
 obtain ⟨w', rfl, tk, rfl⟩ := a5k rvs
 obtain ⟨its, r', pl, hz⟩ := I.tuple0 g1
 have hl := r'.length
 rw [List.length_map] at hl hz
 obtain ⟨o, eo, ec, edd, n, ed⟩ := id pl
 obtain ⟨cls, dd, data, sl⟩ := o
 simp only at ec edd ed
 subst ec edd ed
 have hk' : ns.idxOf k < ns.length := List.idxOf_lt_length_iff.mpr hk
 have item : ∀ (j : Nat) (hj : j < its.toArray.size), ∃ tk', its.toArray[j] = Value.int (ns[j]'(by rw [List.size_toArray, ← hl] at hj; exact hj)) tk' := fun j hj => by
  have hj' : j < ns.length := by rw [List.size_toArray, ← hl] at hj; exact hj
  obtain ⟨w2, e2, tk', rfl⟩ := r'.get (i := j) (x := V.int ns[j]) (by rw [List.getElem?_map, List.getElem?_eq_getElem hj'] <;> rfl)
  have : its[j]? = some its.toArray[j] := by rw [List.getElem?_eq_getElem (by rw [List.size_toArray] at hj; exact hj)] <;> simp
  rw [e2] at this
  exact ⟨tk', (Option.some.inj this).symm⟩
 let ee : Value → Bool := fun v => match v with | .int i _ => i == k | _ => false
 refine call_meets PySem.F.slot_tuple_index ⟨_, eo, rfl⟩ PySem.F.entry_tuple_index (PySem.F.args_tuple_index_2 _ _)
  (a7y p its.toArray n none sl (.int k tk) ee (ns.idxOf k) (by rw [List.size_toArray, ← hl]; exact hk') ?_ ?_) ⟨eo, fun y hy => ?_, ?_⟩
 ·obtain ⟨tk', e⟩ := item (ns.idxOf k) (by rw [List.size_toArray, ← hl]; exact hk')
  rw [e]
  show (ns[ns.idxOf k] == k) = true
  simp
 ·intro m hm hlt
  obtain ⟨tk', e⟩ := item m hm
  rw [e]
  show (ns[m]'_ == k) = false
  have := List.not_of_lt_findIdx (p := (· == k)) (xs := ns) (i := m) (by simpa [List.idxOf] using hlt)
  simpa using this
 ·obtain ⟨j, hj, rfl⟩ := Array.getElem_of_mem hy
  obtain ⟨tk', e⟩ := item j hj
  rw [e]
  exact SeqAt.EqAt.int_int _ _ _ _
 ·exact ⟨.int (ns.idxOf k), H, I.tok _, ⟨_, rfl⟩, en _ _ M H Kp.refl hh a0U q⟩
noncomputable def tLMS (to : TE3) (t : TA3) : TE3 := fun ρ M Q => to ρ M fun x M1 => b6I M1 x ∧ t ρ M1 fun xs M2 => a9M x xs M2 Q
theorem a8Z {o : Expr} {to : TE3} {apos cpos : Pos} (ho : HE X o to) (ha : HA X (e :: es) t)
  (hbase : attributeBase o "index" X.env (eval o X.env) = eval o X.env := by rfl)
  (hfew : ((backTo cpos (starEach (e :: es) X.env)).all (fun x => !x.1) && (backToKw cpos (keywordEach [] X.env)).all (fun x => x.1.isSome)
   && decide ((e :: es).length + ([] : List Keyword).length + (if ([] : List Keyword).isEmpty then 0 else 1) < 30)) = true := by rfl)
  (hline : (apos.endLine == cpos.line) = true := by rfl) (hs : starEach (e :: es) X.env = (false, eval e X.env) :: starEach es X.env := by rfl) (hplain : (backTo cpos (starEach es X.env)).any (·.1) = false := by rfl) :
  HE X (.Call (.Attribute o "index" apos) (e :: es) [] cpos) (tLMS to t) := by
 intro ρ M Q h pins s σ H Q2 I bb
 obtain ⟨hr, hh, en⟩ := bb
 refine wpAny_Call_method_late hbase hfew hline rfl (thn (ho ρ M _ h pins s σ H (fun v H1 => ∃ x M1, Rep X.K H1 v x ∧ HR X.K H1 M1 ∧ Kp X.K H H1 ∧ b6I M1 x ∧ t ρ M1 fun xs M2 => a9M x xs M2 Q) I
  ⟨hr, hh, fun x v M1 H1 k1 h1 r1 q1 => ⟨x, M1, r1, h1, k1, q1.1, q1.2⟩⟩) fun v s1 ⟨vv, H1, I1, rvv, x, M1, r1, h1, k1, sq, q1⟩ => ?_)
 have hA := ha ρ M1 _ q1 cpos pins s1 σ H1
 cases x with
 | adr p =>
   have ty : tyV X.K "list" vv H1 := b0M h1 r1 sq
   obtain ⟨t1, t2⟩ := b5d I1 rvv ty
   refine ⟨"list", "list.index", PySem.F.plainAttrs_list, PySem.F.slot_list_index, PySem.F.type_list_index, t1, t2, ?_⟩
   have hB := hA (fun vs H2 => ∃ xs M2, Reps X.K H2 vs xs ∧ HR X.K H2 M2 ∧ Kp X.K H1 H2 ∧ a9M (.adr p) xs M2 Q) I1 ⟨hr.kp k1, h1, fun ts vs M2 H2 k2 h2 r2 q2 => ⟨ts, M2, r2, h2, k2, q2⟩⟩
   rw [hs] at hB ⊢
   refine Calls.callWith_builtin (by show (false || (backTo cpos (starEach es X.env)).any (·.1)) = false; rw [hplain] <;> rfl) (Calls.evalArgs_plain ?_)
   refine thn hB fun us s2 ⟨vs, H2, I2, rvs, xs, M2, r2, h2, k2, q2⟩ => ?_
   have q3 : a7P (.adr p) xs M2 Q := by
    unfold a9M at q2
    split at q2
    ·rename_i h; cases h; exact q2
    ·rename_i h; cases h
    ·exact q2.elim
   exact b2T pins s2 σ H2 vv vs v us Q2 I2 rvv rvs ⟨.adr p, xs, M2, Q, Rep.kp k2 _ _ r1, r2, h2, q3, en.kp (k1.trans k2)⟩
 | tup ts =>
   obtain ⟨a1, ys, rfl, g1, g2⟩ := a1n r1
   have eu : v = .ref a1 := by cases rvv; rfl
   obtain ⟨its, _, ⟨oo, eo, ec, ed, _⟩, _⟩ := I1.tuple0 g1
   refine ⟨"tuple", "tuple.index", PySem.F.plainAttrs_tuple, PySem.F.slot_tuple_index, PySem.F.type_tuple_index, ?_, ?_, ?_⟩
   ·rw [eu]; exact ⟨oo, eo, ec⟩
   ·intro a2 e2
    rw [eu] at e2
    cases e2
    exact ⟨oo, eo, ed⟩
   have hB := hA (fun vs H2 => ∃ xs M2, Reps X.K H2 vs xs ∧ HR X.K H2 M2 ∧ Kp X.K H1 H2 ∧ a9M (.tup ts) xs M2 Q) I1 ⟨hr.kp k1, h1, fun ts vs M2 H2 k2 h2 r2 q2 => ⟨ts, M2, r2, h2, k2, q2⟩⟩
   rw [hs] at hB ⊢
   refine Calls.callWith_builtin (by show (false || (backTo cpos (starEach es X.env)).any (·.1)) = false; rw [hplain] <;> rfl) (Calls.evalArgs_plain ?_)
   refine thn hB fun us s2 ⟨vs, H2, I2, rvs, xs, M2, r2, h2, k2, q2⟩ => ?_
   unfold a9M at q2
   split at q2
   ·rename_i h; cases h
   ·rename_i ts' k h
    cases h
    obtain ⟨w, rfl, rw'⟩ := a2z r2
    obtain rfl := a0z rw'
    split at q2
    ·rename_i ns en'
     have et := a5s en'
     subst et
     exact b1D pins s2 σ H2 _ k v us ns M2 Q Q2 I2 rvv rvs (Rep.kp k2 _ _ r1) h2 (en.kp (k1.trans k2)) q2.1 q2.2
    ·exact q2.elim
   ·exact q2.elim
 | _ => exact sq.elim
end
section
open AutoSeq1
theorem a8n (l : Addr) (items : Array Value) (n : Nat) (b : Addr) (items2 : Array Value) (n2 : Nat) (sl : Array (Option Value)) (hs0 : ¬(!items.isEmpty && Builtin.List.listTooLong (items.size + items2.size)) = true) (hs1 : items.size ≤ sizeLine) (hs2 : items.size + items2.size ≤ sizeLine + 1) :
  Meets (Builtin.«list.extend» ⟨[.ref l, .ref b], []⟩) (fun _ R s => s.heap.get? l = some { cls := .type "list", dict := none, data := .seq items n, slots := #[] } ∧ s.heap.get? b = some { cls := .type "tuple", dict := none, data := .seq items2 n2, slots := sl } ∧ R (.ok (.ret Value.none)) { s with heap := s.heap.update l (Obj.mapSeq fun x => x ++ items2), toks := s.toks }) :=
 .of_wp fun prog w A R s h => by
  obtain ⟨hp, g, d, tk, os⟩ := s; obtain ⟨hl, hb, h⟩ := h; have f1 := idx_int; have f2 := AutoSeq1.sub_tuple_tuple; have f3 := AutoSeq1.sub_list_list; have f4 := AutoSeq1.sub_tuple_list; have f5 := AutoSeq1.sub_list_tuple;
  have hz' : (items ++ items2).size ≤ sizeLine + 1 := by rw [Array.size_append]; exact hs2
  wp_walk using (wpAny_updateSeq hl rfl (hz := hs1) (_hz' := hz')), wpAny_loadPart' hl, wpAny_loadPart' hb; exact ⟨_, rfl, h⟩
end
section
variable {X : Cx} {a b e f : Expr} {es : List Expr} {ta te : TE3} {t : TA3} {pos : Pos}
noncomputable def b4h : RM3 := fun x xs M Q => match x, xs with
 | .adr p, [.tup us] => (match M p with | some (.lst ts) => ts.length + us.length ≤ sizeLine ∧ Q .non (updM M p (.lst (ts ++ us))) | _ => False)
 | .adr p, [.adr q] => (match M p, M q with | some (.lst ts), some (.lst us) => ts.length + us.length ≤ sizeLine ∧ Q .non (updM M p (.lst (ts ++ us))) | _, _ => False)
 | _, _ => False
theorem b1E : MtR3 X "list.extend" b4h := by
 intro pins s σ H v vs u us Q2 I rv rvs h
 obtain ⟨x, xs, M, Q, r1, r2, hh, q, en⟩ := h
 unfold b4h at q
 split at q
 ·rename_i p ys
  split at q
  ·rename_i ts e0
   obtain ⟨zs, g1, g2⟩ := hh _ _ e0
   obtain rfl := a0I r1
   obtain ⟨w, rfl, rw'⟩ := a2z r2
   obtain ⟨b1, ws, rfl, k1, k2⟩ := a1n rw'
   cases rv
   obtain ⟨u2, rfl, ru⟩ := rvs.one
   cases ru
   obtain ⟨z, its, n, r, hl, e⟩ := I.lstM g1
   obtain ⟨its2, r2', ⟨o, eo, ec, ed, n2, edd⟩, hz2⟩ := I.tuple0 k1
   obtain ⟨cls, dd, data, sl⟩ := o
   simp only at ec ed edd
   subst ec ed edd
   have l2 := r2'.length
   have l3 := g2.length
   have l4 := k2.length
   have hsz : its.toArray.size + its2.toArray.size ≤ sizeLine := by rw [List.size_toArray, List.size_toArray]; lia
   have hlong : ¬ (!its.toArray.isEmpty && Builtin.List.listTooLong (its.toArray.size + its2.toArray.size)) = true := by
    rw [a8e hsz, Bool.and_false]
    exact Bool.false_ne_true
   refine call_meets F.slot_list_extend ⟨_, e, rfl⟩ F.entry_list_extend (F.args_list_extend_2 _ _)
    (a8n p its.toArray n b1 its2.toArray n2 sl hlong (by rw [List.size_toArray]; lia) (by lia)) ⟨e, eo, ?_⟩
   refine ⟨.non, _, I.lset (its' := its ++ its2) g1 e (by simp) (r.append r2') ?_, rfl, en _ _ _ _ (Kp.lst g1) (hh.setL g1 (g2.append k2)) a6e q.2⟩
   rw [List.length_append]
   lia
  ·exact q.elim
 ·rename_i p b1
  split at q
  ·rename_i ts us' e0 e1
   obtain ⟨zs, g1, g2⟩ := hh _ _ e0
   obtain ⟨ws, k1, k2⟩ := hh _ _ e1
   obtain rfl := a0I r1
   obtain ⟨w, rfl, rw'⟩ := a2z r2
   obtain rfl := a0I rw'
   have l3 := g2.length
   have l4 := k2.length
   exact b2Q pins s σ H _ _ u us Q2 I rv rvs ⟨_, _, zs, ws, rfl, rfl, g1, k1, by lia, en _ _ _ _ (Kp.lst g1) (hh.setL g1 (g2.append k2)) a6e q.2⟩
  ·exact q.elim
 ·exact q.elim
theorem a7m {o : Expr} {to : TE3} {apos cpos : Pos} (ho : HE X o to) (ha : HA X (e :: es) t)
  (hbase : attributeBase o "extend" X.env (eval o X.env) = eval o X.env := by rfl)
  (hfew : ((backTo cpos (starEach (e :: es) X.env)).all (fun x => !x.1) && (backToKw cpos (keywordEach [] X.env)).all (fun x => x.1.isSome)
   && decide ((e :: es).length + ([] : List Keyword).length + (if ([] : List Keyword).isEmpty then 0 else 1) < 30)) = true := by rfl)
  (hline : (apos.endLine == cpos.line) = true := by rfl) (hs : starEach (e :: es) X.env = (false, eval e X.env) :: starEach es X.env := by rfl) (hplain : (backTo cpos (starEach es X.env)).any (·.1) = false := by rfl) :
  HE X (.Call (.Attribute o "extend" apos) (e :: es) [] cpos) (tLM3 b4h to t) := h_lm PySem.F.slot_list_extend PySem.F.type_list_extend b1E ho ha hbase hfew hline hs hplain
noncomputable def keyT : Key → T
 | .inl i => .int i
 | .inr x => .str x
theorem b5T {K : PySem.W.Frag} {H : Hp} {v : V} {k : Key} (r : Rep K H v (keyT k)) : v = kV k := by
 cases k with
 | inl i => exact a0z r
 | inr x => exact a3p r
theorem a7J {K : PySem.W.Frag} {H : Hp} : ∀ {ks : List Key} {vs : List V}, Reps K H vs (ks.map keyT) → vs = ks.map kV
 | [], _, r => by rw [List.map_nil] at r; unfold Reps at r; exact r
 | k :: ks, _, r => by
   rw [List.map_cons] at r
   unfold Reps at r
   obtain ⟨v, w, rfl, r1, r2⟩ := r
   rw [b5T r1, a7J r2]
   rfl
noncomputable def valT {κ : Type} [DecidableEq κ] (kvs : List (κ × T)) (k : κ) : Option T := (kvs.find? fun kv => decide (kv.1 = k)).map (·.2)
noncomputable def putT {κ : Type} [DecidableEq κ] (kvs : List (κ × T)) (k : κ) (v : T) : List (κ × T) :=
 if (kvs.any fun kv => decide (kv.1 = k)) = true then kvs.map (fun kv => if kv.1 = k then (kv.1, v) else kv) else kvs ++ [(k, v)]
theorem KRep.val {κ : Type} [DecidableEq κ] {K : PySem.W.Frag} {H : Hp} (k : κ) : ∀ {xs : List (κ × V)} {kvs : List (κ × T)}, KRep K H xs kvs → (match valT kvs k with | some t => ∃ v, valV xs k = some v ∧ Rep K H v t | none => valV xs k = none)
 | [], [], _ => rfl
 | p :: r, q :: u, h => by
   have ih := KRep.val k h.2.2
   unfold valT valV at ih ⊢
   rw [List.find?_cons, List.find?_cons, h.1]
   by_cases c : q.1 = k
   ·simp only [c, decide_true, Option.map_some]
    exact ⟨p.2, rfl, h.2.1⟩
   ·simp only [c, decide_false]
    exact ih
 | [], q :: u, h => h.elim
 | p :: r, [], h => h.elim
theorem KRep.any {κ : Type} [DecidableEq κ] {K : PySem.W.Frag} {H : Hp} (k : κ) : ∀ {xs : List (κ × V)} {kvs : List (κ × T)}, KRep K H xs kvs → (xs.any fun kv => decide (kv.1 = k)) = kvs.any fun kv => decide (kv.1 = k)
 | [], [], _ => rfl
 | p :: r, q :: u, h => by rw [List.any_cons, List.any_cons, h.1, KRep.any k h.2.2]
 | [], q :: u, h => h.elim
 | p :: r, [], h => h.elim
theorem KRep.repl {κ : Type} [DecidableEq κ] {K : PySem.W.Frag} {H : Hp} (k : κ) {v : V} {z : T} (rz : Rep K H v z) : ∀ {xs : List (κ × V)} {kvs : List (κ × T)}, KRep K H xs kvs → KRep K H (xs.map fun kv => if kv.1 = k then (kv.1, v) else kv) (kvs.map fun kv => if kv.1 = k then (kv.1, z) else kv)
 | [], [], _ => trivial
 | p :: r, q :: u, h => by
   rw [List.map_cons, List.map_cons]
   refine ⟨?_, ?_, KRep.repl k rz h.2.2⟩
   ·rw [h.1]
    by_cases c : q.1 = k
    ·rw [if_pos c, if_pos c]
    ·rw [if_neg c, if_neg c]; exact h.1
   ·rw [h.1]
    by_cases c : q.1 = k
    ·rw [if_pos c, if_pos c]; exact rz
    ·rw [if_neg c, if_neg c]; exact h.2.1
 | [], q :: u, h => h.elim
 | p :: r, [], h => h.elim
theorem KRep.snoc {κ : Type} {K : PySem.W.Frag} {H : Hp} (k : κ) {v : V} {z : T} (rz : Rep K H v z) : ∀ {xs : List (κ × V)} {kvs : List (κ × T)}, KRep K H xs kvs → KRep K H (xs ++ [(k, v)]) (kvs ++ [(k, z)])
 | [], [], _ => ⟨rfl, rz, trivial⟩
 | p :: r, q :: u, h => ⟨h.1, h.2.1, KRep.snoc k rz h.2.2⟩
 | [], q :: u, h => h.elim
 | p :: r, [], h => h.elim
theorem KRep.put {κ : Type} [DecidableEq κ] {K : PySem.W.Frag} {H : Hp} (k : κ) {v : V} {z : T} (rz : Rep K H v z) {xs : List (κ × V)} {kvs : List (κ × T)} (h : KRep K H xs kvs) : KRep K H (putK xs k v) (putT kvs k z) := by
 unfold putK putT
 rw [h.any k]
 split
 ·exact h.repl k rz
 ·exact h.snoc k rz
noncomputable def b7u (tup : Bool) : TE3 := fun _ M Q => ∀ p, M p = none → Q (.adr p) (updM M p (if tup then .dt [] else .dk []))
theorem b8E {pos : Pos} : HE X (.Dict [] [] pos) (b7u true) := fun ρ M Q h =>
 (b4q).imp fun σ H Q2 ⟨hr, hh, en⟩ => fun p hp => en _ _ _ _ (Kp.new hp) (hh.newT hp (kvs := []) (xs := []) trivial) a2G (h p (hh.free hp))
noncomputable def tDGT (td : TE3) (t : TA3) : TE3 := fun ρ M Q => td ρ M fun x M1 => t ρ M1 fun ks M2 => ks.length ≤ sizeLine ∧ (match x with
 | .adr p => (match M2 p with
   | some (.dt kvs) => ∃ (kk : List Key) (t : T), ks = kk.map keyT ∧ valT kvs kk = some t ∧ Q t M2
   | _ => False)
 | _ => False)
theorem b9G {o : Expr} {es : List Expr} {x1} {p1 : Pos} {td : TE3} {t : TA3} {pos : Pos} (hu : X.A.units + 64 < cLine) (ho : HE X o td) (ha : HA X es t) (hs : NoSl (.Tuple es x1 p1) := by intro _ _; rfl) : HE X (.Subscript o (.Tuple es x1 p1) pos) (tDGT td t) := fun ρ M Q h =>
 (b6u (by lia) (ho.d (ρ := ρ)) (b2B (ha.d (ρ := ρ))) hs).imp fun σ H Q2 ⟨hr, hh, en⟩ => ⟨M, _, h, hr, hh, fun x v M1 H1 k1 h1 r1 q1 => ⟨M1, _, q1, hr.kp k1, h1, fun ks vs M2 H2 k2 h2 r2 q2 => by
  obtain ⟨hz, q2⟩ := q2
  refine ⟨by rw [r2.length]; exact hz, fun b hb => ?_⟩
  cases x with
  | adr p =>
    cases r1
    dsimp only at q2
    split at q2
    ·rename_i kvs e
     obtain ⟨kk, t, rfl, ev, q2⟩ := q2
     obtain rfl := a7J r2
     obtain ⟨xs, g1, g2⟩ := h2 _ _ e
     have hv := g2.val kk
     rw [ev] at hv
     obtain ⟨u, e1, e2⟩ := hv
     have np : p ≠ b := fun z => by rw [← z, g1] at hb; cases hb
     exact ⟨_, u, rfl, by rw [← e1]; exact DGet.t (by rw [a0y np]; exact g1) a0O, en _ _ M2 _ ((k1.trans k2).trans (Kp.new hb)) (h2.keep hb) (Rep.kp (Kp.new hb) _ _ e2) q2⟩
    ·exact q2.elim
  | _ => exact q2.elim⟩⟩
noncomputable def sDPT (td : TE3) (t : TA3) (tv : TE3) : TS3 := fun D ρ M => tv ρ M fun z M1 => td ρ M1 fun x M2 => t ρ M2 fun ks M3 => ks.length ≤ sizeLine ∧ (match x with
 | .adr p => (match M3 p with
   | some (.dt kvs) => ∃ kk : List Key, ks = kk.map keyT ∧ kvs.length < sizeLine ∧ D.nx ρ (updM M3 p (.dt (putT kvs kk z)))
   | _ => False)
 | _ => False)
theorem b9c {o value : Expr} {es : List Expr} {x1} {p1 : Pos} {td tv : TE3} {t : TA3} {pos pos' : Pos} (hu : X.A.units + 64 < cLine) (hv : HE X value tv) (ho : HE X o td) (ha : HA X es t) (hs : swapsWith value (some (.Subscript o (.Tuple es x1 p1) pos')) pos.line X.env = pure false := by rfl) :
  HS X (.Assign [.Subscript o (.Tuple es x1 p1) pos'] value pos) (sDPT td t tv) := fun D ρ M h =>
 (b6n (by lia) (ho.d (ρ := ρ)) (b2B (ha.d (ρ := ρ))) (hv.d (ρ := ρ)) hs).imp fun D2 σ H ⟨hr, hh, en⟩ => ⟨M, _, h, hr, hh, fun z v M1 H1 k1 h1 r1 q1 => ⟨M1, _, q1, hr.kp k1, h1, fun x v2 M2 H2 k2 h2 r2 q2 => ⟨M2, _, q2, hr.kp (k1.trans k2), h2, fun ks vs M3 H3 k3 h3 r3 q3 => by
  obtain ⟨hz, q3⟩ := q3
  refine ⟨by rw [r3.length]; exact hz, fun b hb => ?_⟩
  cases x with
  | adr p =>
    cases r2
    dsimp only at q3
    split at q3
    ·rename_i kvs e
     obtain ⟨kk, rfl, hl, q3⟩ := q3
     obtain rfl := a7J r3
     obtain ⟨xs, g1, g2⟩ := h3 _ _ e
     have np : p ≠ b := fun z => by rw [← z, g1] at hb; cases hb
     have kb := Kp.new (K := X.K) (o := .tup (kk.map kV)) hb
     have g1' : upd H3 b (.tup (kk.map kV)) p = some (.dT xs) := by rw [a0y np]; exact g1
     have kk' := Kp.dict (K := X.K) (u := .dT (putK xs kk v)) g1' (.inr ⟨_, rfl⟩)
     have kall := (k1.trans k2).trans (k3.trans (kb.trans kk'))
     refine ⟨_, _, rfl, DPut.t g1' a0O (by rw [g2.length]; exact hl), en.nx _ _ _ _ kall (hr.kp kall) ((h3.keep hb).setT g1' (.inr ⟨_, rfl⟩) ((g2.kp kb).put kk (Rep.kp ((k2.trans k3).trans kb) _ _ r1))) q3⟩
    ·exact q3.elim
  | _ => exact q3.elim⟩⟩⟩
noncomputable def b0L (x : T) : Bool := match x with
 | .non => true
 | _ => false
theorem a8X {K : PySem.W.Frag} {H : Hp} {v : V} {x : T} (r : Rep K H v x) : decide (v = .non) = b0L x := by
 cases x with
 | non => obtain rfl := a6s r; rfl
 | bl b => obtain rfl := a3m r; rfl
 | int i => obtain rfl := a0z r; rfl
 | str y => obtain rfl := a3p r; rfl
 | adr a => obtain rfl := a0I r; rfl
 | tup ts => obtain ⟨p, xs, rfl, _, _⟩ := a1n r; rfl
 | rd ts => obtain ⟨p, xs, rfl, _, _⟩ := a7k r; rfl
 | dic ks ts => unfold Rep at r; exact r.elim
noncomputable def b6J (x : T) (c : Bool) : Option Bool := match x with
 | .bl b => some (b == c)
 | _ => none
noncomputable def rIs3 : R3 := fun x y M Q => match y with
 | .non => Q (.bl (b0L x)) M
 | .bl c => (match b6J x c with | some b => Q (.bl b) M | none => False)
 | _ => False
noncomputable def b7M : R3 := fun x y M Q => match y with
 | .non => Q (.bl (!b0L x)) M
 | .bl c => (match b6J x c with | some b => Q (.bl (!b)) M | none => False)
 | _ => False
theorem b8y {M : Model} {A : Around} {E : Value → Shared → Prop} {s : Shared} {Q : Value → Shared → Prop} {b c : Bool} (h : Q (.bool (b == c)) s) : wpAny M A (compareOp .Is (.bool b) (.bool c)) Q E s := by
 cases b <;> cases c <;> exact wpAny_pure h
theorem b3f {M : Model} {A : Around} {E : Value → Shared → Prop} {s : Shared} {Q : Value → Shared → Prop} {b c : Bool} (h : Q (.bool (!(b == c))) s) : wpAny M A (compareOp .IsNot (.bool b) (.bool c)) Q E s := by
 cases b <;> cases c <;> exact wpAny_pure h
theorem b5o : OpR3 X (compareOp .Is) rIs3 := by
 intro pins s σ H x y v u Q2 I rx ry q
 obtain ⟨a, b, M, Q, r1, r2, hh, q, en⟩ := q
 cases b with
 | non =>
   obtain rfl := a6s r2
   refine b8l pins s σ H _ _ v u Q2 I rx ry ⟨rfl, ?_⟩
   rw [a8X r1]
   exact en _ _ M H Kp.refl hh a2L q
 | bl c =>
   cases a with
   | bl b =>
     obtain rfl := a3m r1
     obtain rfl := a3m r2
     cases rx
     cases ry
     exact b8y ⟨.bl _, H, I, rfl, en _ _ M H Kp.refl hh a2L q⟩
   | _ => exact q.elim
 | _ => exact q.elim
theorem a8K : OpR3 X (compareOp .IsNot) b7M := by
 intro pins s σ H x y v u Q2 I rx ry q
 obtain ⟨a, b, M, Q, r1, r2, hh, q, en⟩ := q
 cases b with
 | non =>
   obtain rfl := a6s r2
   refine b6A pins s σ H _ _ v u Q2 I rx ry ⟨rfl, ?_⟩
   rw [a8X r1]
   exact en _ _ M H Kp.refl hh a2L q
 | bl c =>
   cases a with
   | bl b =>
     obtain rfl := a3m r1
     obtain rfl := a3m r2
     cases rx
     cases ry
     exact b3f ⟨.bl _, H, I, rfl, en _ _ M H Kp.refl hh a2L q⟩
   | _ => exact q.elim
 | _ => exact q.elim
end
end L2
namespace L2
open PySem PySem.Spec PyProof.Rows LM
noncomputable def a4D (st : List Int) (k : Nat) : List Int := (st.set k (st.getD (k + 1) 0)).set (k + 1) (st.getD k 0)
theorem b2i (st : List Int) (k : Nat) (h : k + 1 < st.length) : st.take k ++ ([st.getD (k + 1) 0, st.getD k 0] ++ st.drop (k + 2)) = a4D st k := by
 unfold a4D
 induction st generalizing k with
 | nil => simp at h
 | cons x t ih =>
   cases k with
   | zero =>
     cases t with
     | nil => simp at h
     | cons y t => rfl
   | succ k =>
     have := ih k (by simp at h; lia)
     simp only [List.take_succ_cons, List.cons_append, List.drop_succ_cons, List.set_cons_succ, List.getD_cons_succ] at this ⊢
     rw [← this]
noncomputable def isWd (n : Int) (w : List Int) (k : Int) : Bool := decide (1 ≤ n) && decide (n ≤ 6) && decide ((w.length : Int) ≤ k) && w.all (a5O n)
theorem b6H (n : Int) (w : List Int) : isWd n w 16 = isPl n w := by
 unfold isWd isPl
 rw [show decide ((w.length : Int) ≤ 16) = decide (w.length ≤ 16) from decide_eq_decide.mpr (by lia)]
theorem a3r {κ : Type} [DecidableEq κ] (p : κ × T) (r : List (κ × T)) (k : κ) : valT (p :: r) k = if p.1 = k then some p.2 else valT r k := by
 unfold valT
 rw [List.find?_cons]
 by_cases c : p.1 = k
 ·simp [c]
 ·simp [c]
theorem b0Y (xs : List T) (k : Int) (h0 : 0 ≤ k) : cutT xs none (some k) = xs.take k.toNat := by
 unfold cutT
 have e : k = ((k.toNat : Nat) : Int) := by lia
 rw [e, HT.sIx_nat, HT.sIx_none, List.drop_zero, Nat.sub_zero, Int.toNat_natCast]
 by_cases h : k.toNat ≤ xs.length
 ·rw [Nat.min_eq_left h]
 ·rw [Nat.min_eq_right (by lia), List.take_of_length_le (Nat.le_refl _), List.take_of_length_le (by lia)]
theorem b3N {α : Type} (xs : List α) (a b : α) : atI (xs ++ [a, b]) (-2) = some a := by
 have e : (xs ++ [a, b]).length = xs.length + 2 := by simp
 unfold atI
 rw [e]
 have : ixN (xs.length + 2) (-2) = some xs.length := by
  unfold ixN
  simp
  lia
 rw [this]
 simp
theorem WordOK.take {n : Int} {w : List Int} (h : WordOK n w) (k : Nat) : WordOK n (w.take k) := fun l hl => h l (List.mem_of_mem_take hl)
theorem WordOK.drop {n : Int} {w : List Int} (h : WordOK n w) (k : Nat) : WordOK n (w.drop k) := fun l hl => h l (List.mem_of_mem_drop hl)
theorem a5y (xs : List T) (k : Int) (h0 : 0 ≤ k) : cutT xs (some k) none = xs.drop k.toNat := by
 unfold cutT
 have e : k = ((k.toNat : Nat) : Int) := by lia
 rw [e, HT.sIx_nat, HT.sIx_none, Int.toNat_natCast]
 by_cases h : k.toNat ≤ xs.length
 ·rw [Nat.min_eq_left h, List.take_of_length_le (by rw [List.length_drop]; lia)]
 ·rw [Nat.min_eq_right (by lia), Nat.sub_self, List.take_zero, List.drop_of_length_le (by lia)]
theorem b3D (xs : List T) (a b : Int) (h0 : 0 ≤ a) (h1 : a ≤ b) (h2 : a ≤ xs.length) : cutT xs (some a) (some b) = (xs.drop a.toNat).take (b - a).toNat := by
 unfold cutT
 have e : a = ((a.toNat : Nat) : Int) := by lia
 have e' : b = ((b.toNat : Nat) : Int) := by lia
 rw [e, e', HT.sIx_nat, HT.sIx_nat, ← e, ← e', Nat.min_eq_left (show a.toNat ≤ xs.length by lia)]
 by_cases h : b.toNat ≤ xs.length
 ·rw [Nat.min_eq_left h, show (b - a).toNat = b.toNat - a.toNat by lia]
 ·rw [Nat.min_eq_right (by lia), List.take_of_length_le (by rw [List.length_drop]; exact Nat.le_refl _), List.take_of_length_le (by rw [List.length_drop]; lia)]
end L2
namespace LM
noncomputable def AL (n : Int) (w v : List Int) : Prop := ∀ j : Int, 1 ≤ j → j ≤ n → imgL w j = imgL v j
theorem AL.refl {n : Int} {w : List Int} : AL n w w := fun _ _ _ => rfl
theorem AL.symm {n : Int} {w v : List Int} (h : AL n w v) : AL n v w := fun j a b => (h j a b).symm
theorem AL.trans {n : Int} {w v x : List Int} (h : AL n w v) (g : AL n v x) : AL n w x := fun j a b => (h j a b).trans (g j a b)
noncomputable def twL (n : Int) (i : Nat) : List Int := (List.range i).flatMap fun k => rowL (n.toNat - 1 - k)
noncomputable def twF (n : Int) : List Int := twL n (n.toNat - 1)
theorem b7g {n : Int} (h1 : 2 ≤ n) (h2 : n ≤ 4) : WordOK n (twF n) := by
 have h : n = 2 ∨ n = 3 ∨ n = 4 := by lia
 have q : ∀ (m : Int), (twF m).all (a5O m) = true → WordOK m (twF m) := fun m h l hl => a3f.mp (List.all_eq_true.mp h l hl)
 rcases h with rfl | rfl | rfl <;> exact q _ (by decide +kernel)
theorem a6Y {n l : Int} (h : LetOK n l) : WordOK n [l] := fun x hx => by
 have : x = l := by simpa using hx
 rw [this]; exact h
end LM
namespace L2
open PySem PySem.Spec PyProof.Rows LM
noncomputable def gI (w : List Int) (k : Int) : Int := w.getD k.toNat 0
noncomputable def a1D (w : List Int) (a : Int) : Bool := decide (0 ≤ a ∧ a < (w.length : Int) - 1) && decide ((1 : Int) < (((((gI w a).natAbs : Int) - ((gI w (a + 1)).natAbs : Int)).natAbs : Nat) : Int))
noncomputable def a1L (w : List Int) (a : Int) : Bool := decide (0 ≤ a ∧ a < (w.length : Int) - 1) && decide (gI w a = -(gI w (a + 1)))
noncomputable def a0J (w : List Int) (a : Int) : Bool := decide (0 ≤ a ∧ a < (w.length : Int) - 2) && (decide (((gI w a).natAbs : Int) = ((gI w (a + 2)).natAbs : Int)) && decide ((((((gI w a).natAbs : Int) - ((gI w (a + 1)).natAbs : Int)).natAbs : Nat) : Int) = 1) && (!decide (gI w a = gI w (a + 2)) || decide (0 < gI w a * gI w (a + 1))))
noncomputable def sgnL (a l : Int) : Int := if l < 0 then -((a.natAbs : Nat) : Int) else ((a.natAbs : Nat) : Int)
noncomputable def a4u (w : List Int) (a : Int) : List Int := w.take a.toNat ++ [sgnL (gI w (a + 1)) (gI w (a + 2)), sgnL (gI w a) (gI w (a + 1)), sgnL (gI w (a + 1)) (gI w a)] ++ w.drop (a + 3).toNat
noncomputable def inL (w : List Int) (a l : Int) : List Int := w.take a.toNat ++ [l, -l] ++ w.drop a.toNat
theorem a4z {A B : List Int} {x : Int} {a : Int} (h0 : 0 ≤ a) (h : A.length = a.toNat) : gI (A ++ x :: B) a = x := by
 unfold gI
 rw [List.getD_eq_getElem?_getD, ← h, List.getElem?_append_right (Nat.le_refl _), Nat.sub_self]
 rfl
theorem a4K {A B : List Int} {x y : Int} {a : Int} (h0 : 0 ≤ a) (h : A.length = a.toNat) : gI (A ++ x :: y :: B) (a + 1) = y := by
 have : A ++ x :: y :: B = (A ++ [x]) ++ y :: B := by simp
 rw [this]
 exact a4z (by lia) (by simp; lia)
theorem b3o {A B : List Int} {x y z : Int} {a : Int} (h0 : 0 ≤ a) (h : A.length = a.toNat) : gI (A ++ x :: y :: z :: B) (a + 2) = z := by
 have : A ++ x :: y :: z :: B = (A ++ [x, y]) ++ z :: B := by simp
 rw [this]
 exact a4z (by lia) (by simp; lia)
theorem cut2 {w : List Int} {a : Int} (h0 : 0 ≤ a) (h1 : a < (w.length : Int) - 1) : ∃ A p q B, w = A ++ p :: q :: B ∧ A.length = a.toNat := by
 refine ⟨w.take a.toNat, w[a.toNat]'(by lia), w[a.toNat + 1]'(by lia), w.drop (a.toNat + 2), ?_, by rw [List.length_take]; lia⟩
 conv => lhs; rw [← List.take_append_drop a.toNat w, List.drop_eq_getElem_cons (by lia), List.drop_eq_getElem_cons (by lia)]
theorem cut3 {w : List Int} {a : Int} (h0 : 0 ≤ a) (h1 : a < (w.length : Int) - 2) : ∃ A p q r B, w = A ++ p :: q :: r :: B ∧ A.length = a.toNat := by
 obtain ⟨A, p, q, B, e, h⟩ := cut2 (w := w) (a := a) h0 (by lia)
 cases B with
 | nil => rw [e] at h1; simp at h1; lia
 | cons r B => exact ⟨A, p, q, r, B, e, h⟩
theorem a4R {A B : List Int} {a : Int} (h : A.length = a.toNat) : (A ++ B).take a.toNat = A := by rw [← h]; simp
theorem a5e {A B : List Int} {a : Int} (h : A.length = a.toNat) : (A ++ B).drop a.toNat = B := by rw [← h]; simp
theorem a9g {A B : List Int} {x y : Int} {a : Int} (h0 : 0 ≤ a) (h : A.length = a.toNat) : (A ++ x :: y :: B).drop (a + 2).toNat = B := by
 have : A ++ x :: y :: B = (A ++ [x, y]) ++ B := by simp
 rw [this]
 exact a5e (by simp; lia)
theorem b3u {A B : List Int} {x y z : Int} {a : Int} (h0 : 0 ≤ a) (h : A.length = a.toNat) : (A ++ x :: y :: z :: B).drop (a + 3).toNat = B := by
 have : A ++ x :: y :: z :: B = (A ++ [x, y, z]) ++ B := by simp
 rw [this]
 exact a5e (by simp; lia)
theorem a4d {A B : List Int} {x y : Int} {k : Nat} (h : A.length = k) : a4D (A ++ x :: y :: B) k = A ++ y :: x :: B := by
 rw [← b2i _ _ (by simp; lia)]
 have e1 := a4z (A := A) (B := y :: B) (x := x) (a := (k : Int)) (by lia) (by lia)
 have e2 := a4K (A := A) (B := B) (x := x) (y := y) (a := (k : Int)) (by lia) (by lia)
 have e3 := a9g (A := A) (B := B) (x := x) (y := y) (a := (k : Int)) (by lia) (by lia)
 have e4 := a4R (A := A) (B := x :: y :: B) (a := (k : Int)) (by lia)
 unfold gI at e1 e2
 rw [show ((k : Int)).toNat = k by lia] at e1 e4
 rw [show ((k : Int) + 1).toNat = k + 1 by lia] at e2
 rw [show ((k : Int) + 2).toNat = k + 2 by lia] at e3
 rw [e1, e2, e3, e4]
 simp
theorem a4B {A B : List Int} {p q r : Int} {a : Int} (h0 : 0 ≤ a) (h : A.length = a.toNat) : a4u (A ++ p :: q :: r :: B) a = A ++ sgnL q r :: sgnL p q :: sgnL q p :: B := by
 unfold a4u
 rw [a4z h0 h, a4K h0 h, b3o h0 h, a4R h, b3u h0 h]
 simp
theorem a6h {A B : List Int} {p q : Int} {a : Int} (h0 : 0 ≤ a) (h : A.length = a.toNat) : (A ++ p :: q :: B).take a.toNat ++ (A ++ p :: q :: B).drop (a + 2).toNat = A ++ B := by rw [a4R h, a9g h0 h]
theorem a8i {A B : List Int} {l : Int} {a : Int} (h : A.length = a.toNat) : inL (A ++ B) a l = A ++ l :: -l :: B := by
 unfold inL
 rw [a4R h, a5e h]
 simp
theorem a4P {A B : List Int} {p q : Int} {a : Int} (h0 : 0 ≤ a) (h : A.length = a.toNat) : a1D (A ++ p :: q :: B) a = true ↔ 1 < (((p.natAbs : Int) - (q.natAbs : Int)).natAbs : Int) := by
 unfold a1D
 rw [a4z h0 h, a4K h0 h]
 simp only [Bool.and_eq_true, decide_eq_true_eq, List.length_append, List.length_cons]
 constructor
 ·exact fun h => h.2
 ·exact fun z => ⟨by lia, z⟩
theorem a4O {A B : List Int} {p q : Int} {a : Int} (h0 : 0 ≤ a) (h : A.length = a.toNat) : a1L (A ++ p :: q :: B) a = true ↔ p = -q := by
 unfold a1L
 rw [a4z h0 h, a4K h0 h]
 simp only [Bool.and_eq_true, decide_eq_true_eq, List.length_append, List.length_cons]
 constructor
 ·exact fun h => h.2
 ·exact fun z => ⟨by lia, z⟩
theorem b6F {p q : Int} (hp : p ≠ 0) (hq : q ≠ 0) : 0 < p * q ↔ (0 < p ↔ 0 < q) := by
 rcases Int.lt_or_gt_of_ne hp with h | h <;> rcases Int.lt_or_gt_of_ne hq with g | g
 ·exact ⟨fun _ => by lia, fun _ => Int.mul_pos_of_neg_of_neg h g⟩
 ·exact ⟨fun z => absurd z (by have := Int.mul_neg_of_neg_of_pos h g; lia), fun z => by lia⟩
 ·exact ⟨fun z => absurd z (by have := Int.mul_neg_of_pos_of_neg h g; lia), fun z => by lia⟩
 ·exact ⟨fun _ => by lia, fun _ => Int.mul_pos h g⟩
noncomputable def a6P (p q r : Int) : Prop := p.natAbs = r.natAbs ∧ (p.natAbs + 1 = q.natAbs ∨ q.natAbs + 1 = p.natAbs) ∧ (p = r → (0 < p ↔ 0 < q))
theorem b6D {a b : Nat} : ((((a : Int) - (b : Int)).natAbs : Nat) : Int) = 1 ↔ (a + 1 = b ∨ b + 1 = a) := by lia
theorem a5g {A B : List Int} {p q r : Int} {a : Int} (h0 : 0 ≤ a) (h : A.length = a.toNat) (hp : p ≠ 0) (hq : q ≠ 0) : a0J (A ++ p :: q :: r :: B) a = true ↔ a6P p q r := by
 unfold a0J a6P
 rw [a4z h0 h, a4K h0 h, b3o h0 h]
 simp only [Bool.and_eq_true, decide_eq_true_eq, List.length_append, List.length_cons, Bool.or_eq_true, Bool.not_eq_true', decide_eq_false_iff_not, b6F hp hq, b6D]
 constructor
 ·rintro ⟨_, ⟨h1, h2⟩, h3⟩
  exact ⟨Int.ofNat.inj h1, h2, fun e => h3.resolve_left fun z => z e⟩
 ·rintro ⟨h1, h2, h3⟩
  refine ⟨⟨h0, ?_⟩, ⟨congrArg _ h1, h2⟩, ?_⟩
  ·clear hp hq h1 h2 h3
   lia
  ·by_cases e : p = r
   ·exact .inr (h3 e)
   ·exact .inl e
theorem a7E (p q : Int) : (sgnL p q).natAbs = p.natAbs := by unfold sgnL; split <;> lia
theorem b3p {x y : Int} (h : x.natAbs = y.natAbs) (g : 0 < x ↔ 0 < y) (hy : y ≠ 0) : x = y := by lia
theorem _root_.LM.WordOK.sub {n : Int} {u v : List Int} (h : WordOK n u) (g : ∀ x ∈ v, x ∈ u) : WordOK n v := fun x hx => h x (g x hx)
theorem _root_.LM.LetOK.abs {n x y : Int} (h : LetOK n x) (e : y.natAbs = x.natAbs) : LetOK n y := by unfold LetOK at h ⊢; rw [e]; exact h
theorem b4R {n : Int} {w : List Int} {a : Int} (h : a1D w a = true) (hw : WordOK n w) : a1D (a4D w a.toNat) a = true ∧ a4D (a4D w a.toNat) a.toNat = w ∧ WordOK n (a4D w a.toNat) ∧ (a4D w a.toNat).length = w.length := by
 have hb : 0 ≤ a ∧ a < (w.length : Int) - 1 := by
  unfold a1D at h
  simp only [Bool.and_eq_true, decide_eq_true_eq] at h
  exact h.1
 obtain ⟨A, p, q, B, rfl, hA⟩ := cut2 hb.1 hb.2
 rw [a4P hb.1 hA] at h
 rw [a4d hA, a4d hA, a4P hb.1 hA]
 refine ⟨by lia, rfl, hw.sub fun x hx => ?_, by simp⟩
 simp only [List.mem_append, List.mem_cons] at hx ⊢
 rcases hx with h | h | h | h <;> simp [h]
theorem b4u {n : Int} {w : List Int} {a : Int} (h : a1L w a = true) (hw : WordOK n w) : inL (w.take a.toNat ++ w.drop (a + 2).toNat) a (gI w a) = w ∧ WordOK n (w.take a.toNat ++ w.drop (a + 2).toNat) ∧ (w.take a.toNat ++ w.drop (a + 2).toNat).length + 2 = w.length ∧ 0 ≤ a ∧ a ≤ ((w.take a.toNat ++ w.drop (a + 2).toNat).length : Int) ∧ LetOK n (gI w a) ∧ a < w.length := by
 have hb : 0 ≤ a ∧ a < (w.length : Int) - 1 := by
  unfold a1L at h
  simp only [Bool.and_eq_true, decide_eq_true_eq] at h
  exact h.1
 obtain ⟨A, p, q, B, rfl, hA⟩ := cut2 hb.1 hb.2
 rw [a4O hb.1 hA] at h
 rw [a6h hb.1 hA, a8i hA, a4z hb.1 hA]
 refine ⟨by rw [h]; simp, hw.sub fun x hx => ?_, by simp; lia, hb.1, by simp; lia, hw p (by simp), by simp; lia⟩
 simp only [List.mem_append, List.mem_cons] at hx ⊢
 rcases hx with h | h <;> simp [h]
theorem b6K {n : Int} {w : List Int} {a l : Int} (h0 : 0 ≤ a) (h1 : a ≤ (w.length : Int)) (hw : WordOK n w) (hl : LetOK n l) : a1L (inL w a l) a = true ∧ (inL w a l).take a.toNat ++ (inL w a l).drop (a + 2).toNat = w ∧ WordOK n (inL w a l) ∧ (inL w a l).length = w.length + 2 := by
 have e := List.take_append_drop a.toNat w
 have hA : (w.take a.toNat).length = a.toNat := by rw [List.length_take]; lia
 generalize w.take a.toNat = A at e hA
 generalize w.drop a.toNat = B at e
 subst e
 rw [a8i hA, a6h h0 hA, a4O h0 hA]
 refine ⟨by lia, rfl, fun x hx => ?_, by simp; lia⟩
 simp only [List.mem_append, List.mem_cons] at hx
 rcases hx with h | h | h | h
 ·exact hw x (by simp [h])
 ·rw [h]; exact hl
 ·rw [h]; exact hl.abs (by lia)
 ·exact hw x (by simp [h])
theorem b1O {w : List Int} {a : Int} (h0 : 0 ≤ a) (h1 : a < w.length) : atI (w.map T.int) a = some (.int (gI w a)) := a8t w a h0 h1
inductive Stp where
 | far (a : Int)
 | three (a : Int)
 | out (a : Int)
 | inn (a l : Int)
noncomputable def Stp.t : Stp → List T
 | .far a => [.str "far", .int a]
 | .three a => [.str "three", .int a]
 | .out a => [.str "out", .int a]
 | .inn a l => [.str "in", .int a, .int l]
noncomputable def inB (n : Int) (w : List Int) (a l : Int) : Bool := decide (0 ≤ a ∧ a ≤ (w.length : Int)) && a5O n l
noncomputable def outL (w : List Int) (a : Int) : List Int := w.take a.toNat ++ w.drop (a + 2).toNat
noncomputable def aft (n : Int) (w : List Int) : Stp → Option (List Int)
 | .far a => if a1D w a then some (a4D w a.toNat) else none
 | .three a => if a0J w a then some (a4u w a) else none
 | .out a => if a1L w a then some (outL w a) else none
 | .inn a l => if inB n w a l then some (inL w a l) else none
theorem a4Q {w : List Int} {a : Int} (h0 : 0 ≤ a) (h1 : a < (w.length : Int) - 2) : (a4u w a).length = w.length := by
 unfold a4u
 rw [List.length_append, List.length_append, List.length_take, List.length_drop]
 simp only [List.length_cons, List.length_nil]
 lia
theorem b1L {n : Int} {w : List Int} {a l : Int} (h : inB n w a l = true) : (inL w a l).length = w.length + 2 := by
 unfold inB at h
 simp only [Bool.and_eq_true, decide_eq_true_eq] at h
 unfold inL
 rw [List.length_append, List.length_append, List.length_take, List.length_drop]
 simp only [List.length_cons, List.length_nil]
 lia
theorem b1m {n : Int} {w : List Int} {a : Int} (h : a0J w a = true) (hw : WordOK n w) : WordOK n (a4u w a) ∧ (a4u w a).length = w.length := by
 have hb : 0 ≤ a ∧ a < (w.length : Int) - 2 := by
  unfold a0J at h
  simp only [Bool.and_eq_true, decide_eq_true_eq] at h
  exact h.1
 refine ⟨?_, a4Q hb.1 hb.2⟩
 obtain ⟨A, p, q, r, B, rfl, hA⟩ := cut3 hb.1 hb.2
 have lp := hw p (by simp)
 have lq := hw q (by simp)
 rw [a4B hb.1 hA]
 intro x hx
 simp only [List.mem_append, List.mem_cons] at hx
 rcases hx with h | h | h | h | h
 ·exact hw x (by simp [h])
 ·rw [h]; exact lq.abs (a7E q r)
 ·rw [h]; exact lp.abs (a7E p q)
 ·rw [h]; exact lq.abs (a7E q p)
 ·exact hw x (by simp [h])
theorem b5z {n : Int} {w r : List Int} {s : Stp} (hw : WordOK n w) (h : aft n w s = some r) : WordOK n r ∧ r.length ≤ w.length + 2 := by
 cases s with
 | far a =>
   replace h : (if a1D w a = true then some (a4D w a.toNat) else none) = some r := h
   split at h
   ·rename_i c
    obtain rfl := Option.some.inj h
    obtain ⟨_, _, h3, h4⟩ := b4R c hw
    exact ⟨h3, by lia⟩
   ·cases h
 | three a =>
   replace h : (if a0J w a = true then some (a4u w a) else none) = some r := h
   split at h
   ·rename_i c
    obtain rfl := Option.some.inj h
    obtain ⟨h3, h4⟩ := b1m c hw
    exact ⟨h3, by lia⟩
   ·cases h
 | out a =>
   replace h : (if a1L w a = true then some (outL w a) else none) = some r := h
   split at h
   ·rename_i c
    obtain rfl := Option.some.inj h
    obtain ⟨_, h3, h4, _⟩ := b4u c hw
    exact ⟨h3, by unfold outL; lia⟩
   ·cases h
 | inn a l =>
   replace h : (if inB n w a l = true then some (inL w a l) else none) = some r := h
   split at h
   ·rename_i c
    obtain rfl := Option.some.inj h
    unfold inB at c
    simp only [Bool.and_eq_true, decide_eq_true_eq, a3f] at c
    obtain ⟨_, _, h3, h4⟩ := b6K c.1.1 c.1.2 hw c.2
    exact ⟨h3, by lia⟩
   ·cases h
noncomputable def thrB (p q r : Int) : Bool := decide (p.natAbs = r.natAbs) && decide (p.natAbs + 1 = q.natAbs ∨ q.natAbs + 1 = p.natAbs) && decide (p = r → (0 < p ↔ 0 < q))
theorem b3X {p q r : Int} : thrB p q r = true ↔ a6P p q r := by
 unfold thrB a6P
 simp only [Bool.and_eq_true, decide_eq_true_eq, and_assoc]
noncomputable def sg (x : Int) : Int := if 0 < x then 1 else -1
theorem b2o {r : Int} (hr : r ≠ 0) (q : Int) : sg r * ((q.natAbs : Nat) : Int) = sgnL q r := by
 unfold sg sgnL
 by_cases c : 0 < r
 ·rw [if_pos c, if_neg (by lia)]; lia
 ·rw [if_neg c, if_pos (by lia)]; lia
theorem b7C {p q : Int} : sg p = sg q ↔ (0 < p ↔ 0 < q) := by
 unfold sg
 split <;> split <;> constructor <;> intro h <;> lia
theorem b5l (x : Int) : sg x = 1 ∨ sg x = -1 := by unfold sg; split <;> simp
noncomputable def Stp.at : Stp → Int
 | .far a => a
 | .three a => a
 | .out a => a
 | .inn a _ => a
noncomputable def optT (o : Option (List Int)) : T := match o with
 | some r => .tup (r.map .int)
 | none => .non
theorem b1h {w : List Int} {a : Int} (h : ¬ (0 ≤ a ∧ a < (w.length : Int) - 1)) : a1D w a = false := by
 unfold a1D; rw [decide_eq_false h]; rfl
theorem b1g {w : List Int} {a : Int} (h : ¬ (0 ≤ a ∧ a < (w.length : Int) - 1)) : a1L w a = false := by
 unfold a1L; rw [decide_eq_false h]; rfl
theorem a7t {w : List Int} {a : Int} (h : ¬ (0 ≤ a ∧ a < (w.length : Int) - 2)) : a0J w a = false := by
 unfold a0J; rw [decide_eq_false h]; rfl
theorem b9C {n : Int} {w : List Int} {a l : Int} (h : ¬ (0 ≤ a ∧ a ≤ (w.length : Int))) : inB n w a l = false := by
 unfold inB; rw [decide_eq_false h]; rfl
theorem a6O {n : Int} {w : List Int} {a : Int} : aft n w (.far a) = if a1D w a = true then some (a4D w a.toNat) else none := rfl
theorem a4c {n : Int} {w : List Int} {a : Int} : aft n w (.three a) = if a0J w a = true then some (a4u w a) else none := rfl
theorem a6N {n : Int} {w : List Int} {a : Int} : aft n w (.out a) = if a1L w a = true then some (outL w a) else none := rfl
theorem b0r {n : Int} {w : List Int} {a l : Int} : aft n w (.inn a l) = if inB n w a l = true then some (inL w a l) else none := rfl
theorem b5b {n : Int} {w : List Int} {s : Stp} (h : s.at < 0 ∨ (w.length : Int) < s.at) : aft n w s = none := by
 cases s with
 | far a => rw [a6O, b1h (by simp only [Stp.at] at h; lia)]; rfl
 | three a => rw [a4c, a7t (by simp only [Stp.at] at h; lia)]; rfl
 | out a => rw [a6N, b1g (by simp only [Stp.at] at h; lia)]; rfl
 | inn a l => rw [b0r, b9C (by simp only [Stp.at] at h; lia)]; rfl
theorem cutI {w : List Int} {a : Int} (h0 : 0 ≤ a) (h1 : a ≤ (w.length : Int)) : ∃ A R, w = A ++ R ∧ A.length = a.toNat := ⟨w.take a.toNat, w.drop a.toNat, (List.take_append_drop _ _).symm, by rw [List.length_take]; lia⟩
theorem b0X {A R : List Int} {a : Int} (h0 : 0 ≤ a) (h : A.length = a.toNat) : cutT ((A ++ R).map T.int) none (some a) = A.map T.int := by
 rw [b0Y _ _ h0, ← List.map_take, a4R h]
theorem b4U {A R : List Int} {a : Int} (h0 : 0 ≤ a) (h : A.length = a.toNat) : cutT ((A ++ R).map T.int) (some a) none = R.map T.int := by
 rw [a5y _ _ h0, ← List.map_drop, a5e h]
theorem a6F {A R : List Int} {a k : Int} (hk : 0 ≤ k) (h0 : 0 ≤ a) (h : A.length = a.toNat) : cutT ((A ++ R).map T.int) (some (a + k)) none = (R.drop k.toNat).map T.int := by
 rw [a5y _ _ (by lia), ← List.map_drop, show (a + k).toNat = A.length + k.toNat by lia, List.drop_append]
 simp
theorem b0k {A R : List Int} {a k : Int} (hk : 0 ≤ k) (h0 : 0 ≤ a) (h : A.length = a.toNat) : cutT ((A ++ R).map T.int) (some a) (some (a + k)) = (R.take k.toNat).map T.int := by
 rw [b3D _ _ _ h0 (by lia) (by rw [List.length_map, List.length_append]; lia), ← List.map_drop, a5e h, ← List.map_take, show (a + k - a).toNat = k.toNat by lia]
theorem a9p {A B : List Int} {p q : Int} {a : Int} (h0 : 0 ≤ a) (h : A.length = a.toNat) : a1D (A ++ p :: q :: B) a = decide (1 < (((p.natAbs : Int) - (q.natAbs : Int)).natAbs : Int)) := Bool.eq_iff_iff.mpr ((a4P h0 h).trans (by rw [decide_eq_true_eq]))
theorem a9o {A B : List Int} {p q : Int} {a : Int} (h0 : 0 ≤ a) (h : A.length = a.toNat) : a1L (A ++ p :: q :: B) a = decide (p = -q) := Bool.eq_iff_iff.mpr ((a4O h0 h).trans (by rw [decide_eq_true_eq]))
noncomputable def stT (s : Stp) : T := .tup s.t
noncomputable def chK (c : Int → Bool) (f : Int → Stp) (m : Nat) : List Stp := ((List.range m).filter fun (i : Nat) => c i).map fun (i : Nat) => f i
theorem b4X (c : Int → Bool) (f : Int → Stp) (m : Nat) : chK c f (m + 1) = chK c f m ++ if c m = true then [f m] else [] := by
 unfold chK
 rw [List.range_succ, List.filter_append, List.map_append]
 congr 1
 rw [List.filter_cons]
 split <;> rfl
theorem a8r (c : Int → Bool) (f : Int → Stp) (m : Nat) : (chK c f m).length ≤ m := by
 unfold chK
 rw [List.length_map]
 exact Nat.le_trans (List.length_filter_le _ _) (by rw [List.length_range]; exact Nat.le_refl _)
noncomputable def chP (w : List Int) : Nat → List Stp
 | 0 => []
 | 1 => chK (a1D w) .far w.length
 | 2 => chK (a1D w) .far w.length ++ chK (a0J w) .three w.length
 | _ => chK (a1D w) .far w.length ++ chK (a0J w) .three w.length ++ chK (a1L w) .out w.length
noncomputable def chL (w : List Int) : List Stp := chP w 3
theorem b3I (w : List Int) (i : Nat) : (chP w i).length ≤ 3 * w.length := by
 have h1 := a8r (a1D w) .far w.length
 have h2 := a8r (a0J w) .three w.length
 have h3 := a8r (a1L w) .out w.length
 unfold chP
 split <;> (try rw [List.length_append]) <;> (try rw [List.length_append]) <;> (try simp only [List.length_nil]) <;> lia
noncomputable def a8V (w : List Int) : List (Str × (Int → Bool) × (Int → Stp)) := [("far", a1D w, .far), ("three", a0J w, .three), ("out", a1L w, .out)]
theorem b2Y (w : List Int) (n : Int) {i : Nat} {k : Str} {c : Int → Bool} {f : Int → Stp} (h : (a8V w)[i]? = some (k, c, f)) : i < 3 ∧ chP w (i + 1) = chP w i ++ chK c f w.length ∧ (∀ j : Int, stT (f j) = .tup [.str k, .int j]) ∧ ∀ j : Int, (aft n w (f j)).isSome = c j := by
 have hi : i < 3 := (List.getElem?_eq_some_iff.mp h).1
 rcases (show i = 0 ∨ i = 1 ∨ i = 2 by lia) with rfl | rfl | rfl
 ·obtain ⟨rfl, rfl, rfl⟩ : ("far" : Str) = k ∧ a1D w = c ∧ Stp.far = f := by simpa [a8V] using h
  refine ⟨hi, (List.nil_append _).symm, fun j => rfl, fun j => ?_⟩
  rw [a6O]; cases a1D w j <;> rfl
 ·obtain ⟨rfl, rfl, rfl⟩ : ("three" : Str) = k ∧ a0J w = c ∧ Stp.three = f := by simpa [a8V] using h
  refine ⟨hi, rfl, fun j => rfl, fun j => ?_⟩
  rw [a4c]; cases a0J w j <;> rfl
 ·obtain ⟨rfl, rfl, rfl⟩ : ("out" : Str) = k ∧ a1L w = c ∧ Stp.out = f := by simpa [a8V] using h
  refine ⟨hi, rfl, fun j => rfl, fun j => ?_⟩
  rw [a6N]; cases a1L w j <;> rfl
theorem b4V {n : Int} {w : List Int} {s : Stp} (h : s ∈ chL w) : (aft n w s).isSome = true := by
 have key : ∀ {c : Int → Bool} {f : Int → Stp} {m : Nat}, (∀ j : Int, (aft n w (f j)).isSome = c j) → s ∈ chK c f m → (aft n w s).isSome = true := by
  intro c f m e hs
  unfold chK at hs
  obtain ⟨j, hj, rfl⟩ := List.mem_map.mp hs
  rw [e]
  exact (List.mem_filter.mp hj).2
 unfold chL chP at h
 rcases List.mem_append.mp h with h | h
 ·rcases List.mem_append.mp h with h | h
  ·exact key (fun j => by rw [a6O]; cases a1D w j <;> rfl) h
  ·exact key (fun j => by rw [a4c]; cases a0J w j <;> rfl) h
 ·exact key (fun j => by rw [a6N]; cases a1L w j <;> rfl) h
theorem b2k (s : Stp) : a0G (stT s) = true := by cases s <;> rfl
theorem b4a (s : Stp) : depT (stT s) = 1 := by cases s <;> rfl
theorem a7C : ∀ L : List Stp, a2a (L.map stT) = true
 | [] => rfl
 | s :: L => by rw [List.map_cons, a6f, b2k, a7C L]; rfl
theorem a9E : ∀ L : List Stp, a4M (L.map stT) ≤ 30
 | [] => by decide
 | s :: L => by rw [List.map_cons, a7r, b4a]; have := a9E L; lia
theorem b2l (L : List Stp) : eqTs (L.map stT) [] = L.isEmpty := by cases L <;> rfl
theorem b7y {L : List Stp} {c : Int} (h0 : 0 ≤ c) (h1 : c < (L.length : Int)) : ∃ s ∈ L, atI (L.map stT) c = some (stT s) := by
 obtain ⟨j, rfl⟩ := Int.eq_ofNat_of_zero_le h0
 refine ⟨L[j]'(by lia), List.getElem_mem _, a2k (j := j) ?_⟩
 rw [List.getElem?_map, List.getElem?_eq_getElem (by lia)]
 rfl
theorem b0p {c : Int → Bool} {f : Int → Stp} {m : Nat} {s : Stp} (h : s ∈ chK c f m) : ∃ j : Nat, j < m ∧ c j = true ∧ s = f j := by
 unfold chK at h
 obtain ⟨j, hj, rfl⟩ := List.mem_map.mp h
 obtain ⟨h1, h2⟩ := List.mem_filter.mp hj
 exact ⟨j, List.mem_range.mp h1, h2, rfl⟩
theorem b4W {w : List Int} {s : Stp} (h : s ∈ chL w) : (∃ j : Nat, a1D w j = true ∧ s = .far j) ∨ (∃ j : Nat, a0J w j = true ∧ s = .three j) ∨ (∃ j : Nat, a1L w j = true ∧ s = .out j) := by
 unfold chL chP at h
 rcases List.mem_append.mp h with h | h
 ·rcases List.mem_append.mp h with h | h
  ·obtain ⟨j, _, h2, h3⟩ := b0p h; exact .inl ⟨j, h2, h3⟩
  ·obtain ⟨j, _, h2, h3⟩ := b0p h; exact .inr (.inl ⟨j, h2, h3⟩)
 ·obtain ⟨j, _, h2, h3⟩ := b0p h; exact .inr (.inr ⟨j, h2, h3⟩)
theorem b3J {n : Int} {w r : List Int} {s : Stp} (h : s ∈ chL w) (ha : aft n w s = some r) : r.length ≤ w.length := by
 rcases b4W h with ⟨j, c, rfl⟩ | ⟨j, c, rfl⟩ | ⟨j, c, rfl⟩
 ·rw [a6O, if_pos c] at ha
  obtain rfl := Option.some.inj ha
  unfold a4D
  rw [List.length_set, List.length_set]
  exact Nat.le_refl _
 ·rw [a4c, if_pos c] at ha
  obtain rfl := Option.some.inj ha
  unfold a0J at c
  simp only [Bool.and_eq_true, decide_eq_true_eq] at c
  rw [a4Q (by lia) (by lia)]
  exact Nat.le_refl _
 ·rw [a6N, if_pos c] at ha
  obtain rfl := Option.some.inj ha
  unfold outL
  rw [List.length_append, List.length_take, List.length_drop]
  lia
noncomputable def aftL (n : Int) (w : List Int) : List Stp → Option (List Int)
 | [] => some w
 | s :: L => match aft n w s with
   | some r => aftL n r L
   | none => none
theorem b3R (n : Int) (w : List Int) (s : Stp) (L : List Stp) : aftL n w (s :: L) = match aft n w s with | some r => aftL n r L | none => none := rfl
theorem Sub.mk1 {A M : MH} {q : Nat} {o : MO} (h : Sub A M) (hq : M q = some o) : Sub (updM A q o) M := by
 intro x v hx
 by_cases e : x = q
 ·rw [e] at hx ⊢
  rw [a0d] at hx
  rw [hq, ← hx]
 ·rw [a0k e] at hx
  exact h x v hx
inductive Mv where
 | step (s : Stp)
 | round
 | back
 | less
 | flip
 | more (k : Int)
noncomputable def Mv.t : Mv → List T
 | .step s => [.str "step", .tup s.t]
 | .round => [.str "round"]
 | .back => [.str "back"]
 | .less => [.str "less"]
 | .flip => [.str "flip"]
 | .more k => [.str "more", .int k]
noncomputable def mvT (m : Mv) : T := .tup m.t
inductive Why where
 | ok
 | step
 | room
noncomputable def Why.s : Why → Str
 | .ok => ""
 | .step => "step"
 | .room => "room"
noncomputable def b9z (n : Int) : List Int → Bool
 | [] => false
 | x :: r => decide ((x.natAbs : Int) = n - 1) && r.all fun l => decide ((l.natAbs : Int) ≠ n - 1)
noncomputable def a8h (n : Int) (w : List Int) : Bool := b9z n w.reverse
noncomputable def a3V (n : Int) (w : List Int) : Mv → Why
 | .more k => if n = 6 ∨ w.length = 16 then .room else if k = 1 ∨ k = -1 then .ok else .step
 | .less => if a8h n w then .ok else .step
 | .round => if w.isEmpty then .step else .ok
 | .back => if w.isEmpty then .step else .ok
 | .flip => .ok
 | .step s => match aft n w s with
   | none => .step
   | some r => if 16 < r.length then .room else .ok
noncomputable def a6r (w : List Int) : List Int := w.drop (w.length - 1)
noncomputable def mvTo (n : Int) (w : List Int) : Mv → Int × List Int
 | .more k => (n + 1, w ++ [k * n])
 | .less => (n - 1, w.dropLast)
 | .flip => (n, w.map (a3w n))
 | .round => (n, w.drop 1 ++ w.take 1)
 | .back => (n, a6r w ++ w.dropLast)
 | .step s => (n, (aft n w s).getD w)
noncomputable def ptT (p : Int × List Int) : T := .tup [.int p.1, .tup (p.2.map .int)]
theorem a4o (A : List Int) (y : Int) : a6r (A ++ [y]) = [y] := by
 unfold a6r
 rw [List.length_append, List.length_singleton, Nat.add_sub_cancel, List.drop_left]
theorem a5Z {w : List Int} (h : w ≠ []) : ∃ A y, w = A ++ [y] := by
 rcases List.eq_nil_or_concat w with e | ⟨A, y, e⟩
 ·exact absurd e h
 ·exact ⟨A, y, by rw [e, List.concat_eq_append]⟩
theorem a5r (n : Int) (A : List Int) (y : Int) : a8h n (A ++ [y]) = (decide ((y.natAbs : Int) = n - 1) && A.all fun l => decide ((l.natAbs : Int) ≠ n - 1)) := by
 unfold a8h
 rw [List.reverse_append, List.reverse_singleton, List.singleton_append]
 show (decide ((y.natAbs : Int) = n - 1) && (A.reverse.all fun l => decide ((l.natAbs : Int) ≠ n - 1))) = _
 rw [List.all_reverse]
theorem a6o {n : Int} {w : List Int} : a8h n w = true ↔ ∃ A y, w = A ++ [y] ∧ (y.natAbs : Int) = n - 1 ∧ ∀ l ∈ A, (l.natAbs : Int) ≠ n - 1 := by
 constructor
 ·intro h
  by_cases e : w = []
  ·subst e; cases h
  ·obtain ⟨A, y, rfl⟩ := a5Z e
   rw [a5r] at h
   simp only [Bool.and_eq_true, decide_eq_true_eq, List.all_eq_true] at h
   exact ⟨A, y, rfl, h.1, h.2⟩
 ·rintro ⟨A, y, rfl, h1, h2⟩
  rw [a5r]
  simp only [Bool.and_eq_true, decide_eq_true_eq, List.all_eq_true]
  exact ⟨h1, h2⟩
theorem a8T (n : Int) (w : List Int) : a8h n w = (match w.filter fun l => decide ((l.natAbs : Int) = n - 1) with
  | [x] => decide (a6r w = [x])
  | _ => false) := by
 by_cases e : w = []
 ·subst e; rfl
 ·obtain ⟨A, y, rfl⟩ := a5Z e
  rw [a5r, List.filter_append, a4o]
  have hA : (A.all fun l => decide ((l.natAbs : Int) ≠ n - 1)) = (A.filter fun l => decide ((l.natAbs : Int) = n - 1)).isEmpty := by
   rw [Bool.eq_iff_iff, List.all_eq_true, List.isEmpty_iff, List.filter_eq_nil_iff]
   simp only [decide_eq_true_eq]
  rw [hA]
  by_cases c : (y.natAbs : Int) = n - 1
  ·rw [decide_eq_true c, Bool.true_and]
   have e1 : ([y].filter fun l => decide ((l.natAbs : Int) = n - 1)) = [y] := by
    rw [List.filter_cons, decide_eq_true c]; rfl
   rw [e1]
   cases h : A.filter fun l => decide ((l.natAbs : Int) = n - 1) with
   | nil => simp
   | cons z Z => cases Z <;> simp
  ·rw [decide_eq_false c, Bool.false_and]
   have e1 : ([y].filter fun l => decide ((l.natAbs : Int) = n - 1)) = [] := by
    rw [List.filter_cons, decide_eq_false c]; rfl
   rw [e1, List.append_nil]
   cases h : A.filter fun l => decide ((l.natAbs : Int) = n - 1) with
   | nil => rfl
   | cons z Z =>
     cases Z with
     | nil =>
       have hz : z ∈ A.filter fun l => decide ((l.natAbs : Int) = n - 1) := by rw [h]; exact List.mem_singleton.mpr rfl
       have hz2 := of_decide_eq_true (List.mem_filter.mp hz).2
       dsimp only
       rw [decide_eq_false]
       intro z2
       rw [List.singleton_inj] at z2
       rw [z2] at c
       exact c hz2
     | cons _ _ => rfl
theorem b6Q (n x : Int) (h : LetOK n x) : sg x * (n - (x.natAbs : Int)) = a3w n x := by
 unfold LetOK at h
 unfold sg a3w
 by_cases c : 0 < x
 ·rw [if_pos c, if_neg (by lia)]; lia
 ·rw [if_neg c, if_pos (by lia)]; lia
theorem b6R {n x : Int} (h : LetOK n x) : LetOK n (a3w n x) := by
 unfold LetOK at h ⊢
 unfold a3w
 split <;> lia
theorem a4l (n : Int) (w : List Int) (s : Stp) : a3V n w (.step s) = (match aft n w s with | none => .step | some r => if 16 < r.length then .room else .ok) := rfl
theorem a6n (n : Int) (w : List Int) (s : Stp) : mvTo n w (.step s) = (n, (aft n w s).getD w) := rfl
theorem a4m (n : Int) (w : List Int) : a3V n w .less = if a8h n w then .ok else .step := rfl
theorem a8Q (n : Int) (w : List Int) : mvTo n w .less = (n - 1, w.dropLast) := rfl
theorem a5q (n : Int) (w : List Int) (k : Int) : a3V n w (.more k) = if n = 6 ∨ w.length = 16 then .room else if k = 1 ∨ k = -1 then .ok else .step := rfl
theorem b2N (n : Int) (w : List Int) (k : Int) : mvTo n w (.more k) = (n + 1, w ++ [k * n]) := rfl
theorem b8p {n : Int} {w : List Int} {m : Mv} (h : PlOK n w) (hw : a3V n w m = .ok) : PlOK (mvTo n w m).1 (mvTo n w m).2 ∧ (mvTo n w m).2.length ≤ w.length + 2 := by
 obtain ⟨h1, h6, hl, ho⟩ := h
 cases m with
 | step s =>
   rw [a4l] at hw
   rw [a6n]
   cases e : aft n w s with
   | none => rw [e] at hw; cases hw
   | some r =>
     rw [e] at hw
     dsimp only at hw
     split at hw
     ·cases hw
     ·obtain ⟨g1, g2⟩ := b5z ho e
      exact ⟨⟨h1, h6, by show r.length ≤ 16; lia, g1⟩, g2⟩
 | round =>
   show PlOK n (w.drop 1 ++ w.take 1) ∧ (w.drop 1 ++ w.take 1).length ≤ _
   have e : (w.drop 1 ++ w.take 1).length = w.length := by rw [List.length_append, List.length_drop, List.length_take]; lia
   refine ⟨⟨h1, h6, by rw [e]; exact hl, fun l hm => ?_⟩, by rw [e]; lia⟩
   rcases List.mem_append.mp hm with hm | hm
   ·exact ho l (List.mem_of_mem_drop hm)
   ·exact ho l (List.mem_of_mem_take hm)
 | back =>
   show PlOK n (a6r w ++ w.dropLast) ∧ (a6r w ++ w.dropLast).length ≤ _
   have e : (a6r w ++ w.dropLast).length = w.length := by unfold a6r; rw [List.length_append, List.length_drop, List.length_dropLast]; lia
   refine ⟨⟨h1, h6, by rw [e]; exact hl, fun l hm => ?_⟩, by rw [e]; lia⟩
   rcases List.mem_append.mp hm with hm | hm
   ·exact ho l (List.mem_of_mem_drop hm)
   ·exact ho l (List.dropLast_subset _ hm)
 | less =>
   rw [a4m] at hw
   split at hw
   ·rename_i c
    obtain ⟨A, y, rfl, hy, hA⟩ := a6o.mp c
    rw [a8Q]
    rw [List.dropLast_concat]
    rw [List.length_append, List.length_singleton] at hl ⊢
    have hy2 := ho y (by simp)
    unfold LetOK at hy2
    refine ⟨⟨by show 1 ≤ n - 1; lia, by show n - 1 ≤ 6; lia, by show A.length ≤ 16; lia, fun l hm => ?_⟩, by show A.length ≤ _; lia⟩
    have := ho l (List.mem_append_left _ hm)
    have := hA l hm
    unfold LetOK at *
    show _ ∧ _ < n - 1
    lia
   ·cases hw
 | flip =>
   show PlOK n (w.map (a3w n)) ∧ (w.map (a3w n)).length ≤ _
   refine ⟨⟨h1, h6, by rw [List.length_map]; exact hl, fun l hm => ?_⟩, by rw [List.length_map]; lia⟩
   obtain ⟨x, hx, rfl⟩ := List.mem_map.mp hm
   exact b6R (ho x hx)
 | more k =>
   rw [a5q] at hw
   split at hw
   ·cases hw
   ·rename_i c
    split at hw
    ·rename_i c2
     rw [b2N]
     rw [List.length_append, List.length_singleton]
     refine ⟨⟨by show 1 ≤ n + 1; lia, by show n + 1 ≤ 6; lia, by rw [List.length_append, List.length_singleton]; lia, fun l hm => ?_⟩, by lia⟩
     rcases List.mem_append.mp hm with hm | hm
     ·have := ho l hm
      unfold LetOK at *
      show _ ∧ _ < n + 1
      lia
     ·rw [List.mem_singleton.mp hm]
      unfold LetOK
      show _ ∧ _ < n + 1
      rcases c2 with rfl | rfl <;> lia
    ·cases hw
noncomputable def mvs (n : Int) (w : List Int) : List Mv → Option (Int × List Int)
 | [] => some (n, w)
 | m :: L => match a3V n w m with
   | .ok => mvs (mvTo n w m).1 (mvTo n w m).2 L
   | _ => none
theorem a4k (n : Int) (w : List Int) (m : Mv) (L : List Mv) : mvs n w (m :: L) = match a3V n w m with | .ok => mvs (mvTo n w m).1 (mvTo n w m).2 L | _ => none := rfl
theorem b1B (A B : List Mv) (n : Int) (w : List Int) : mvs n w (A ++ B) = match mvs n w A with | some p => mvs p.1 p.2 B | none => none := by
 induction A generalizing n w with
 | nil => rfl
 | cons m A ih =>
   rw [List.cons_append, a4k, a4k]
   cases a3V n w m with
   | ok => exact ih _ _
   | step => rfl
   | room => rfl
theorem a7s (A : List Int) (y : Int) : cutT ((A ++ [y]).map T.int) none (some (-1)) = A.map T.int := by
 unfold cutT
 rw [List.map_append, List.length_append, List.length_map]
 have e : HT.sIx (A.length + (List.map T.int [y]).length) (A.length + (List.map T.int [y]).length) (some (-1)) = A.length := by
  show (if (-1 : Int) < 0 then ((-1 : Int) + ((A.length + 1 : Nat) : Int)).toNat else min (-1 : Int).toNat (A.length + 1)) = _
  rw [if_pos (by lia)]
  lia
 rw [e, HT.sIx_none, List.drop_zero, Nat.sub_zero, List.take_append_of_le_length (by rw [List.length_map]; exact Nat.le_refl _), List.take_of_length_le (by rw [List.length_map]; exact Nat.le_refl _)]
theorem b1S (A : List Int) (y : Int) : cutT ((A ++ [y]).map T.int) (some (-1)) none = [y].map T.int := by
 unfold cutT
 rw [List.map_append, List.length_append, List.length_map]
 have e : HT.sIx (A.length + (List.map T.int [y]).length) 0 (some (-1)) = A.length := by
  show (if (-1 : Int) < 0 then ((-1 : Int) + ((A.length + 1 : Nat) : Int)).toNat else min (-1 : Int).toNat (A.length + 1)) = _
  rw [if_pos (by lia)]
  lia
 rw [e, HT.sIx_none, List.drop_append_of_le_length (by rw [List.length_map]; exact Nat.le_refl _), List.drop_of_length_le (by rw [List.length_map]; exact Nat.le_refl _), List.nil_append]
 exact List.take_of_length_le (by show 1 ≤ A.length + 1 - A.length; lia)
noncomputable def sw (l x : Int) : Int := if x = l - 1 then l else if x = l then l - 1 else x
noncomputable def IsP (n : Int) (r : List Int) : Prop := r.Perm (a0l n)
noncomputable def mvC (one other : List Int) (l : Nat) : Bool := decide (gI other ((l : Int) - 1) > gI other l) && decide (one.idxOf ((l : Int) - 1) < one.idxOf (l : Int))
noncomputable def mvS (one other : List Int) (m : Nat) : List Nat := (List.range m).filter fun i => mvC one other (i + 1)
noncomputable def mvL (one other : List Int) : Nat := match mvS one other (one.length - 1) with
 | [] => 0
 | i :: _ => i + 1
noncomputable def begL (row : List Int) (l : Nat) : List Int := row.take (l - 1) ++ [gI row l, gI row ((l : Int) - 1)] ++ row.drop (l + 1)
theorem a1J (n : Int) : a1j 0 n.toNat = (a0l n).map .int := by
 unfold a1j a0l
 rw [List.map_map]
 exact List.map_congr_left fun i _ => by show T.int (0 + (i : Nat)) = T.int (i : Nat); rw [Int.zero_add]
theorem a7M (n : Int) : (a0l n).Pairwise (· ≤ ·) := by
 unfold a0l
 rw [List.pairwise_map]
 exact List.Pairwise.imp (fun h => by lia) List.pairwise_lt_range
theorem b2m {n : Int} {ns ms : List Int} (h : ms.Perm ns) (s : ms.Pairwise (· ≤ ·)) : decide (ms = a0l n) = decide (ns.Perm (a0l n)) := by
 rw [Bool.eq_iff_iff, decide_eq_true_eq, decide_eq_true_eq]
 constructor
 ·rintro rfl
  exact h.symm
 ·intro g
  exact List.Perm.eq_of_pairwise (fun a b _ _ h1 h2 => Int.le_antisymm h1 h2) s (a7M n) (h.trans g)
noncomputable def tupT (r : List Int) : T := .tup (r.map .int)
noncomputable def b2j (R : List (List Int)) : Bool := (List.range (R.length - 1)).all fun i => decide (mvL (R.getD i []) (R.getD (i + 1) []) = 0)
theorem a4p {R : List (List Int)} {i : Nat} {x : T} (h : (R.map tupT)[i]? = some x) : ∃ r, R[i]? = some r ∧ x = tupT r := by
 rw [List.getElem?_map] at h
 cases e : R[i]? with
 | none => rw [e] at h; cases h
 | some s => rw [e] at h; exact ⟨s, rfl, (Option.some.inj h).symm⟩
theorem b5G {R : List (List Int)} {i : Nat} (h : i < R.length) : atI (R.map tupT) (i : Nat) = some (tupT (R.getD i [])) := by
 refine a2k ?_
 rw [List.getElem?_map, List.getD_eq_getElem?_getD, List.getElem?_eq_getElem h]
 rfl
noncomputable def flO (n : Int) (ws : List Int) : List Int := ws.reverse.map fun x => n - 1 - x
theorem a0g {a b : TS3} {D : Ends3} {ρ : En} {M : MH} (h : ∀ K : En → MH → Prop, K = b D → a { D with nx := K } ρ M) : a2l a b D ρ M := h _ rfl
theorem a2g {a b c : TS3} {D : Ends3} {ρ : En} {M : MH} (h : ∀ K : En → MH → Prop, K = c D → a2l a b { D with nx := K } ρ M) : a2l a (a2l b c) D ρ M := h _ rfl
theorem a3j {a b c d : TS3} {D : Ends3} {ρ : En} {M : MH} (h : ∀ K : En → MH → Prop, K = d D → a2l a (a2l b c) { D with nx := K } ρ M) : a2l a (a2l b (a2l c d)) D ρ M := h _ rfl
noncomputable def setp (R : List (List Int)) (i : Nat) (a b : List Int) : List (List Int) := (R.set i a).set (i + 1) b
noncomputable def b9N (n : Int) (R R' : List (List Int)) : Prop := ∃ (i l : Nat) (a b : List Int), R[i]? = some a ∧ R[i + 1]? = some b ∧ 1 ≤ l ∧ (l : Int) < n ∧ mvC a b l = true ∧ R' = setp R i (a.map (sw l)) (begL b l)
inductive Go (n : Int) : List (List Int) → List (List Int) → Prop where
 | refl (R : List (List Int)) : Go n R R
 | head {R R1 R2 : List (List Int)} (h : b9N n R R1) (g : Go n R1 R2) : Go n R R2
theorem Go.trans {n : Int} {R R1 R2 : List (List Int)} (a : Go n R R1) (b : Go n R1 R2) : Go n R R2 := by
 induction a with
 | refl _ => exact b
 | head h _ ih => exact .head h (ih b)
noncomputable def okR (n : Int) (R : List (List Int)) : Prop := ∀ r ∈ R, IsP n r
noncomputable def ordF (n l : Int) : List Int := if l > 0 then a4D (a0l n) (l - 1).toNat else a4D (a0l n).reverse (n + l - 1).toNat
noncomputable def b9e (n : Int) (ws : List Int) : List (List Int) := ws.foldl (fun R l => if l > 0 then R ++ [ordF n l] else R.map (flO n) ++ [ordF n l]) []
structure Hd (n : Int) (S R : List (List Int)) (c : Nat) : Prop where
 ok : okR n R
 st : b2j R = true
 dr : S.drop c = R
 ct : S.count (a0l n).reverse = c + R.count (a0l n).reverse
theorem Hd.nil {n : Int} {S : List (List Int)} {c : Nat} (h : Hd n S [] c) : S.count (a0l n).reverse = c := by
 rw [h.ct, List.count_nil, Nat.add_zero]
structure FS (n : Int) (R S : List (List Int)) : Prop where
 ok : okR n S
 st : b2j S = true
 np : ∀ r ∈ S, r ≠ a0l n
 go : ∃ k, Go n R (S ++ List.replicate k (a0l n))
theorem FS.self {n : Int} {S : List (List Int)} (ok : okR n S) (st : b2j S = true) (np : ∀ r ∈ S, r ≠ a0l n) : FS n S S := ⟨ok, st, np, 0, by rw [List.replicate_zero, List.append_nil]; exact .refl _⟩
noncomputable def negs (ws : List Int) : Nat := (ws.filter fun l => decide (l < 0)).length
noncomputable abbrev PR := Int × List (List Int)
noncomputable def Fo (n : Int) (x f : PR) : Prop := ∃ S, FS n x.2 S ∧ f = (x.1 + (S.count (a0l n).reverse : Nat), S.drop (S.count (a0l n).reverse))
noncomputable def flz (n p : Int) (R : List (List Int)) : List (List Int) := if p % 2 = 0 then R else R.map (flO n)
noncomputable def mulP (n : Int) (x y : PR) : PR := (x.1 + y.1, flz n y.1 x.2 ++ y.2)
noncomputable def EqP (n : Int) (x y : PR) : Prop := ∀ A B : PR, okR n A.2 → okR n B.2 → ∀ f, Fo n (mulP n (mulP n A x) B) f ↔ Fo n (mulP n (mulP n A y) B) f
theorem EqP.symm {n : Int} {x y : PR} (h : EqP n x y) : EqP n y x := fun A B a b f => (h A B a b f).symm
theorem EqP.trans {n : Int} {x y z : PR} (h : EqP n x y) (g : EqP n y z) : EqP n x z := fun A B a b f => (h A B a b f).trans (g A B a b f)
theorem b6C (n : Int) : okR n [] := fun r hr => by cases hr
noncomputable def wp (n : Int) (w : List Int) : PR := (-(negs w : Nat), b9e n w)
end L2
namespace LM
theorem WordOK.appl {n : Int} {w v : List Int} (h : WordOK n (w ++ v)) : WordOK n w := fun l hl => h l (List.mem_append_left _ hl)
theorem WordOK.appr {n : Int} {w v : List Int} (h : WordOK n (w ++ v)) : WordOK n v := fun l hl => h l (List.mem_append_right _ hl)
theorem WordOK.one {n l : Int} (h : LetOK n l) : WordOK n [l] := fun x hx => by rw [List.mem_singleton.mp hx]; exact h
theorem WordOK.two {n a b : Int} (h : LetOK n a) (g : LetOK n b) : WordOK n [a, b] := fun l hl => by
 rcases List.mem_cons.mp hl with rfl | hl
 ·exact h
 ·rw [List.mem_singleton.mp hl]; exact g
theorem WordOK.three {n a b c : Int} (h : LetOK n a) (g : LetOK n b) (k : LetOK n c) : WordOK n [a, b, c] := fun l hl => by
 rcases List.mem_cons.mp hl with rfl | hl
 ·exact h
 ·exact WordOK.two g k l hl
end LM
namespace L2
open PySem PySem.Spec PyProof.Rows LM
noncomputable def EqW (n : Int) (w v : List Int) : Prop := EqP n (wp n w) (wp n v)
theorem EqW.symm {n : Int} {w v : List Int} (h : EqW n w v) : EqW n v w := EqP.symm h
theorem EqW.trans {n : Int} {w v x : List Int} (h : EqW n w v) (g : EqW n v x) : EqW n w x := EqP.trans h g
inductive RelW (n : Int) : List Int → List Int → Prop where
 | refl (w : List Int) : RelW n w w
 | symm {w v : List Int} : RelW n w v → RelW n v w
 | trans {w v x : List Int} : RelW n w v → RelW n v x → RelW n w x
 | ctx {w v : List Int} (a b : List Int) : WordOK n a → WordOK n b → RelW n w v → RelW n (a ++ w ++ b) (a ++ v ++ b)
 | far {a b : Int} : LetOK n a → LetOK n b → (a.natAbs + 1 < b.natAbs ∨ b.natAbs + 1 < a.natAbs) → RelW n [a, b] [b, a]
 | three {p q : Int} : LetOK n p → LetOK n q → p * q > 0 → (p - q).natAbs = 1 → RelW n [p, q, p] [q, p, q]
 | out {l : Int} : LetOK n l → RelW n [l, -l] []
theorem RelW.ok {n : Int} {w v : List Int} (h : RelW n w v) : WordOK n w ↔ WordOK n v := by
 induction h with
 | refl => exact Iff.rfl
 | symm _ ih => exact ih.symm
 | trans _ _ a b => exact a.trans b
 | ctx a b ha hb _ ih => exact ⟨fun h => (ha.append (ih.mp h.appl.appr)).append hb, fun h => (ha.append (ih.mpr h.appl.appr)).append hb⟩
 | far a b _ => exact ⟨fun _ => .two b a, fun _ => .two a b⟩
 | three a b _ _ => exact ⟨fun _ => .three b a b, fun _ => .three a b a⟩
 | out a => exact ⟨fun _ => .nil, fun _ => .two a a.neg⟩
section
variable {n : Int} (h6 : n ≤ 6)
include h6
end
theorem Fo.nil {n p : Int} : Fo n (p, []) (p, []) := ⟨[], FS.self (b6C n) rfl (fun r hr => by cases hr), by show (p, []) = (p + ((0 : Nat) : Int), []); rw [Int.natCast_zero, Int.add_zero]⟩
theorem RelW.lf {n : Int} {a w v : List Int} (ha : WordOK n a) (h : RelW n w v) : RelW n (a ++ w) (a ++ v) := by
 have := RelW.ctx a [] ha .nil h
 rwa [List.append_nil, List.append_nil] at this
theorem RelW.rt {n : Int} {b w v : List Int} (hb : WordOK n b) (h : RelW n w v) : RelW n (w ++ b) (v ++ b) := RelW.ctx [] b .nil hb h
theorem RelW.bk {n : Int} : ∀ {w : List Int}, WordOK n w → RelW n (a1C w ++ w) []
 | [], _ => .refl _
 | l :: w, hw => by
   have hl : LetOK n l := hw l List.mem_cons_self
   have hw' : WordOK n w := fun x hx => hw x (List.mem_cons_of_mem _ hx)
   rw [b0l, List.append_assoc]
   have o := RelW.out hl.neg
   rw [Int.neg_neg] at o
   have := RelW.ctx (a1C w) w hw'.contr hw' o
   rw [List.append_nil, List.append_assoc] at this
   exact this.trans (RelW.bk hw')
section
variable {n : Int}
end
section
variable {n : Int}
end
section
variable {n : Int}
end
end L2
namespace L2
open PySem PySem.Spec PyProof.Rows
noncomputable def b7I (hi : Int) (n : Nat) : List T := (List.range n).map fun i => T.int (hi - (i : Nat))
section
variable {X : Cx} {a b c : Expr} {t : TA3} {pos : Pos}
noncomputable def b6L (t : TA3) : TI3 := fun ρ M R => t ρ M fun xs M1 => match xs with
 | [.int i, .int j, .int s] => (s = -1 ∧ -(2 ^ 62) ≤ i ∧ i < 2 ^ 62 ∧ -(2 ^ 62) ≤ j ∧ j < 2 ^ 62) ∧ R ⟨b7I i (i - j).toNat, fun _ => True⟩ M1
 | _ => False
end
section
variable {X : Cx}
end
theorem Inv.turnNew {X : Cx} {pins : List (Addr × Obj)} {σ : St} {H : Hp} {s : Shared} {h' : Heap} {t' : Nat} {e it T : Addr} {xs : List V} (I : Inv X pins σ H s) (fe : FpOk X pins H e) (fi : FpOk X pins H it)
  (k : ∀ b o, b ≠ e → b ≠ it → s.heap.get? b = some o → h'.get? b = some o) (hT : s.heap.objs.size ≤ T) (new : a2J X.prog X.w (upd H T (.tup xs)) h' T (.tup xs)) :
  Inv X pins σ (upd H T (.tup xs)) { s with heap := h', toks := t' } := by
 have hn : H T = none := I.hok.fresh hT
 have ne : ∀ b u, H b = some u → b ≠ e ∧ b ≠ it := fun b u q => ⟨fun z => (by rw [z, fe.1] at q; cases q), fun z => (by rw [z, fi.1] at q; cases q)⟩
 have nc : ∀ {b : Addr}, b ∉ [e, it] → b ≠ e ∧ b ≠ it := fun hc => ⟨fun z => hc (by simp [z]), fun z => hc (by simp [z])⟩
 refine I.step (g' := s.gens) (d' := s.drawn) (ch := [e, it]) (fun b hb => ?_) (fun b o _ _ hc q _ => k b o (nc hc).1 (nc hc).2 q) (fun b o _ _ hc q _ => ⟨o.slots, k b o (nc hc).1 (nc hc).2 q⟩)
  (fun b o _ q n => by rw [a0y (Nat.ne_of_lt (Nat.lt_of_lt_of_le (Heap.lt_size q) hT))]; exact n)
  (fun b o hc q => ⟨o, k b o (nc hc).1 (nc hc).2 q⟩) (fun b xs q => by rw [a0y (a0r q hn)]; exact q) (fun b o u q => by rw [a0y (a0r q hn)]; exact q) (fun b ps q => ⟨#[], by rw [a0y (a0r q hn), q]; simp⟩) (fun m hm => ?_) (fun b u q => ?_) I.bare
 ·have z : b = e ∨ b = it := by simpa using hb
  rcases z with rfl | rfl
  ·exact ⟨fe.2.2.2.1, fe.2.1, fe.2.2.2.2.1, fe.2.2.2.2.2⟩
  ·exact ⟨fi.2.2.2.1, fi.2.1, fi.2.2.2.2.1, fi.2.2.2.2.2⟩
 ·obtain ⟨o, es, ep, ho, r⟩ := hm
  exact ⟨o, es, ep, k _ o (Ne.symm fe.2.1) (Ne.symm fi.2.1) ho, r⟩
 ·by_cases hb : b = T
  ·subst hb; rw [a0O] at q; cases q; exact new
  ·rw [a0y hb] at q
   refine (I.hok b u q).stay (fun c v hc z => ?_) (fun c z => by rw [a0y (a0r z hn)]; exact z) fun c xs z => by rw [a0y (a0r z hn)]; exact z
   rcases hc with y | y
   ·rw [y] at z ⊢; exact k b v (ne b u q).1 (ne b u q).2 z
   ·exact k c v (ne c _ y).1 (ne c _ y).2 z
theorem a1K {i : TI3} {g : TG3} {b : TS3} {D : Ends3} {ρ : En} {M : MH} (h : ∀ B : TS3, B = b → a3Q i g B D ρ M) : a3Q i g b D ρ M := h _ rfl
section
variable {X : Cx}
noncomputable def enT (ts : List T) : List T := (List.range ts.length).map fun i => .tup [.int (i : Nat), ts.getD i .non]
theorem a3a (ts : List T) : (enT ts).length = ts.length := by unfold enT; rw [List.length_map, List.length_range]
theorem a6D {ts : List T} {i : Nat} {x : T} (h : (enT ts)[i]? = some x) : ∃ t, ts[i]? = some t ∧ x = .tup [.int i, t] := by
 have hi : i < ts.length := by have := (List.getElem?_eq_some_iff.mp h).1; rwa [a3a] at this
 unfold enT at h
 rw [List.getElem?_map, List.getElem?_range hi] at h
 refine ⟨ts[i], List.getElem?_eq_getElem hi, ?_⟩
 have e : ts.getD i .non = ts[i] := by rw [List.getD_eq_getElem?_getD, List.getElem?_eq_getElem hi]; rfl
 rw [← e]
 exact (Option.some.inj h).symm
end
section
variable {X : Cx} {pins : List (Addr × Obj)} {σ : St} {H : Hp} {s : Shared}
end
section
variable {X : Cx} {Ha : Hp} {a b c e : Expr} {es : List Expr} {st : Stmt} {rest ba bb body : List Stmt} {ta tb te : TE3} {tA : TT3} {t u : TS3} {pos : Pos}
end
section
variable {X : Cx} {Ha : Hp} {e : Expr} {es : List Expr} {t : TA3} {pos : Pos}
end
section
variable {X : Cx} {Ha : Hp} {e : Expr} {te : TE3} {pos : Pos}
end
section
variable {P : Program} {w : World} {K : PySem.W.Frag} {mg : Str → Option Value} {base : Heap}
end
section
variable {prog : Program} {w : World} {A : Around} {E : Value → Shared → Prop} {s : Shared} {h : Heap} {g : Array GenState} {d : Drawn} {t : Nat} {os : OsState} {a C : Addr} {o : Obj} {K : PySem.W.Frag}
local macro_rules | `(tactic| walk_at "xc") => `(tactic| (repeat any_goals (first | wp_step | assumption)))
end
section
variable {X : Cx} {pos : Pos}
end
section
variable {X : Cx} {pins : List (Addr × Obj)} {σ : St} {H : Hp} {s : Shared}
end
local macro_rules | `(tactic| walk_at "xc") => `(tactic| (repeat any_goals (first | wp_step | assumption)))
section
variable {X : Cx} {pos : Pos}
end
section
variable {X : Cx} {pins : List (Addr × Obj)} {σ σ' : St} {H : Hp} {s : Shared}
end
section
variable {X : Cx} {body : List Stmt}
end
section
variable {K : PySem.W.Frag} {mg : Str → Option Value} {P : Addr} {cs : List (Str × Addr)}
end
section
variable {X : Cx}
end
section
variable {X : Cx}
end
noncomputable def b2h (i : Nat) (te : TE3) (f : Int → Int → Int) : TS3 := fun D ρ M => match ρ[i]? with
 | some (some (.int a)) => te ρ M fun y M1 => match y with
   | .int b => D.nx (ρ.set i (some (.int (f a b)))) M1
   | _ => False
 | _ => False
theorem b7D {X : Cx} {i : Nat} {x : Str} {e : Expr} {te : TE3} {op : Operator} {f : Int → Int → Int} {pos pos' : Pos} (ho : PIp X op (ipI f)) (he : HE X e te) (hN : X.N.Nodup) (hi : X.N[i]? = some x := by rfl) (hx : Loc X.env.scope x := by first | exact Or.inl rfl | exact Or.inr rfl)
  (hf : X.fn x = true ∨ X.env.scope.names.lookup x = some .local := by first | exact .inl rfl | exact .inr rfl | assumption) : HS X (.AugAssign (.Name x pos') op e pos) (b2h i te f) := fun D ρ M h =>
 (b7V hN hi hx (he.d (ρ := ρ)) ho hf).imp fun D2 σ H ⟨hr, hh, en⟩ => by
  unfold b2h at h
  split at h
  ·rename_i a e
   obtain ⟨v, ev, rv⟩ := hr.2 i _ e
   obtain rfl := a0z rv
   refine ⟨_, ev, M, _, h, hr, hh, fun t v M1 H1 k1 h1 r1 q1 => ?_⟩
   dsimp only at q1
   split at q1
   ·obtain rfl := a0z r1
    exact ⟨a, _, rfl, rfl, en.nx _ M1 _ H1 k1 ((hr.kp k1).set i a0U) h1 q1⟩
   ·exact q1.elim
  ·exact h.elim
section
variable {X : Cx} {d : Addr} {ks : List (Str × Addr)}
end
section
variable {X : Cx} {d : Addr} {ks : List (Str × Addr)}
end
noncomputable def flT : T → Bool
 | .non => true
 | .bl _ => true
 | .int _ => true
 | .str _ => true
 | _ => false
noncomputable def toV : T → V
 | .bl b => .bl b
 | .int i => .int i
 | .str z => .str z
 | _ => .non
theorem b5m {K : PySem.W.Frag} {H : Hp} {v : V} {t : T} (f : flT t = true) (r : Rep K H v t) : v = toV t := by
 cases t with
 | non => exact a6s r
 | bl b => exact a3m r
 | int i => exact a0z r
 | str z => exact a3p r
 | _ => cases f
theorem a9H {K : PySem.W.Frag} {H : Hp} : ∀ {vs : List V} {ts : List T}, ts.all flT = true → Reps K H vs ts → vs = ts.map toV
 | vs, [], _, r => by unfold Reps at r; exact r
 | vs, t :: ts, f, r => by
   unfold Reps at r
   obtain ⟨v, w, rfl, r1, r2⟩ := r
   rw [List.all_cons, Bool.and_eq_true] at f
   rw [b5m f.1 r1, a9H f.2 r2]
   rfl
theorem a7z {t : T} (f : flT t = true) : a6W (toV t) = true := by
 cases t <;> first | rfl | cases f
theorem a5W : ∀ {ts : List T}, ts.all flT = true → (ts.map toV).all a6W = true
 | [], _ => rfl
 | t :: ts, f => by
   rw [List.all_cons, Bool.and_eq_true] at f
   rw [List.map_cons, List.all_cons, a7z f.1, a5W f.2]
   rfl
theorem b7i {x y : T} (f : flT x = true) (g : flT y = true) : eqV (toV x) (toV y) = eqT x y := by
 cases x with
 | tup _ => cases f
 | adr _ => cases f
 | rd _ => cases f
 | dic _ _ => cases f
 | _ =>
   cases y with
   | tup _ => cases g
   | adr _ => cases g
   | rd _ => cases g
   | dic _ _ => cases g
   | _ => rfl
noncomputable def inT (x : T) (ts : List T) : Bool := ts.any fun y => eqT y x
theorem b2b {x : T} (f : flT x = true) : ∀ {ts : List T}, ts.all flT = true → inV (toV x) (ts.map toV) = inT x ts
 | [], _ => rfl
 | t :: ts, g => by
   rw [List.all_cons, Bool.and_eq_true] at g
   have := b2b f g.2
   unfold inV inT at this ⊢
   rw [List.map_cons, List.any_cons, List.any_cons, b7i g.1 f, this]
noncomputable def rIn3 (neg : Bool) : R3 := fun x y M Q => flT x = true ∧ match y with
 | .tup ts => ts.all flT = true ∧ Q (.bl (if neg then !inT x ts else inT x ts)) M
 | .adr p => match M p with
   | some (.lst ts) => ts.all flT = true ∧ Q (.bl (if neg then !inT x ts else inT x ts)) M
   | _ => False
 | _ => False
section
variable {X : Cx}
theorem b2H {neg : Bool} {f : Value → Value → Sem Value} (ho : OpR X f (rIn X.K neg)) : OpR3 X f (rIn3 neg) := by
 intro pins s σ H x y v u Q2 I rx ry q
 obtain ⟨a, b, M, Q, r1, r2, hh, q, en⟩ := q
 unfold rIn3 at q
 obtain ⟨fa, q⟩ := q
 obtain rfl := b5m fa r1
 split at q
 ·obtain ⟨p, xs, rfl, h1, h2⟩ := a1n r2
  obtain rfl := a9H q.1 h2
  refine ho pins s σ H _ _ v u Q2 I rx ry ⟨p, _, rfl, .inr h1, a7z fa, a5W q.1, ?_⟩
  rw [b2b fa q.1]
  exact en _ _ M H Kp.refl hh a2L q.2
 ·rename_i p
  split at q
  ·rename_i ts e
   obtain ⟨xs, h1, h2⟩ := hh _ _ e
   obtain rfl := a0I r2
   obtain rfl := a9H q.1 h2
   refine ho pins s σ H _ _ v u Q2 I rx ry ⟨p, _, rfl, (.inl (.inl (.inl h1))), a7z fa, a5W q.1, ?_⟩
   rw [b2b fa q.1]
   exact en _ _ M H Kp.refl hh a2L q.2
  ·exact q.elim
 ·exact q.elim
theorem b5p : OpR3 X (compareOp .In) (rIn3 false) := b2H b2E
theorem b2G : OpR3 X (compareOp .NotIn) (rIn3 true) := b2H a8J
end
section
variable {X : Cx} {Ha : Hp} {body : List Stmt} {pos : Pos}
end
end L2
namespace L2
open PySem PySem.Spec PyProof.Rows
open AutoSeq1 (wpAny_loadPart')
theorem b0a (t : Addr) (items : Array Value) (n : Nat) (dct : Option Addr) (sl : Array (Option Value)) :
  Meets (Builtin.«enumerate.__new__» ⟨[.type "enumerate", .ref t], []⟩) (fun _ R s => s.heap.get? t = some { cls := .type "tuple", dict := dct, data := .seq items n, slots := sl } ∧
   R (.ok (.ret (.ref (s.heap.push { cls := .type "tuple_iterator", data := .fields #[.ref t, .int 0 0] }).objs.size)))
     { s with heap := (s.heap.push { cls := .type "tuple_iterator", data := .fields #[.ref t, .int 0 0] }).push { cls := .type "enumerate", data := .fields #[.none, .bool false, .ref s.heap.objs.size, rawInt 0, .none, .none] } }) :=
 .of_wp fun prog w A R s h => by
  obtain ⟨hp, g, d, tk, os⟩ := s; obtain ⟨hl, h⟩ := h
  have hsub := sub_enumerate
  have hL : Heap.IsTuple (Shared.heap ⟨hp, g, d, tk, os⟩) t items := ⟨_, hl, rfl, n, rfl⟩
  wp_walk using wpAny_loadPart' hl
  refine wpAny_stack_any fun st => wpAny_pure ?_
  split
  ·rename_i c _ _ _ _ _
   cases (c == Value.type "enumerate")
   ·wp_walk using wpAny_loadPart' hl, wpAny_pyIter_tuple hL
    exact ⟨_, rfl, h⟩
   ·wp_walk using wpAny_loadPart' hl, wpAny_pyIter_tuple hL
    exact ⟨_, rfl, h⟩
  ·wp_walk using wpAny_loadPart' hl, wpAny_pyIter_tuple hL
   exact ⟨_, rfl, h⟩
section
variable {prog : Program} {w : World} {A : Around} {E : Value → Shared → Prop} {s : Shared}
theorem b1T {l : Addr} {items : Array Value} {Q : Value → Shared → Prop} (hL : s.heap.IsTuple l items)
  (h : ∀ h', IsEnum h' (s.heap.objs.size + 1) s.heap.objs.size 0 .none → h'.IsTupleIter s.heap.objs.size l 0 → h'.objs.size = s.heap.objs.size + 2 →
   (∀ b o, s.heap.get? b = some o → h'.get? b = some o) → Q (.ref (s.heap.objs.size + 1)) { s with heap := h' }) :
  wpAny (model prog w) A (call (.type "enumerate") [.ref l]) Q E s := by
 obtain ⟨⟨c, dct, dt, sl⟩, hl, hc, n, hd⟩ := hL
 replace hc : c = .type "tuple" := hc
 replace hd : dt = .seq items n := hd
 subst hc hd
 refine callType_new F.called_enumerate (by decide) (F.typeCall_enumerate_1 _) (F.newCall_enumerate_1 _) (fun obj => F.args_object_init_2 obj _) F.entry_enumerate_new
  (b0a l items n dct sl) ⟨hl, ?_⟩
 have hz : (s.heap.push { cls := .type "tuple_iterator", data := .fields #[.ref l, .int 0 0] }).objs.size = s.heap.objs.size + 1 := Heap.size_push ..
 show _ ∧ _
 rw [hz]
 have he : IsEnum ((s.heap.push { cls := .type "tuple_iterator", data := .fields #[.ref l, .int 0 0] }).push
   { cls := .type "enumerate", data := .fields #[.none, .bool false, .ref s.heap.objs.size, rawInt 0, .none, .none] }) (s.heap.objs.size + 1) s.heap.objs.size 0 .none := by
  have := Heap.get?_push_size (s.heap.push { cls := .type "tuple_iterator", data := .fields #[.ref l, .int 0 0] })
   (o := { cls := .type "enumerate", data := .fields #[.none, .bool false, .ref s.heap.objs.size, rawInt 0, .none, .none] }) rfl
  rw [hz] at this; exact this
 refine ⟨⟨_, he, rfl⟩, h _ he ⟨_, Heap.get?_push_of_some _ (Heap.get?_push_size _ rfl), rfl, rfl⟩ (by rw [Heap.size_push, hz]) fun b o x => Heap.get?_push_of_some _ (Heap.get?_push_of_some _ x)⟩
theorem a6m {it l : Addr} {i : Nat} {items} {x : Value} {Q : Value → Shared → Prop} (hit : s.heap.IsTupleIter it l i)
  (hl : s.heap.IsTuple l items) (hx : items[i]? = some x)
  (hQ : ∀ h', h'.IsTupleIter it l (i + 1) → Heap.SameBut it s.heap h' → Q x { s with heap := h' }) :
  wpAny (model prog w) A (Builtin.SmallTypes.nextOf (.ref it)) Q E s := by
 obtain ⟨o, ho, hc, hd⟩ := id hit
 obtain ⟨ol, hol, _, nl, hdl⟩ := hl
 unfold Builtin.SmallTypes.nextOf
 refine wpAny_bind (wpAny_callSpecial?_slot (name := Str.ofString "__next__") hit.typeIs F.slot_tuple_iterator_next
  (wpAny_call_entry F.slot_tuple_iterator_next hit.typeIs F.entry_tuple_iterator_next ?_ (F.args_tuple_iterator_next_1 _)))
 show wpAny _ _ (field (.ref it) 0 >>= _) _ _ s
 refine wpAny_bind (wpAny_field ho hd (x := .ref l) rfl ?_)
 show wpAny _ _ (if (Value.ref l == Value.none) = true then _ else _) _ _ s
 rw [if_neg (show ¬ ((Value.ref l == Value.none) = true) from Bool.false_ne_true)]
 show wpAny _ _ (field (.ref it) 1 >>= _) _ _ s
 refine wpAny_bind (wpAny_field ho hd (x := .int i 0) rfl ?_)
 show wpAny _ _ (seqItems? (.ref l) >>= _) _ _ s
 refine wpAny_bind (wpAny_seqItems hol hdl ?_)
 simp only [Int.toNat_natCast, hx]
 refine wpAny_bind (wpAny_setField ho hd (by simp) (wpAny_pure ⟨x, rfl, wpAny_pure (hQ _ ?_ (Heap.SameBut.update ..))⟩))
 exact ⟨_, Heap.get?_update_self _ ho (Obj.isFreed_of_fields (Obj.data_mapFields hd _)), (Obj.cls_mapFields ..).trans hc, by
  rw [Obj.data_mapFields hd]; simp [rawInt]⟩
theorem a6U {it l : Addr} {i : Nat} {items} {Q : Value → Shared → Prop} (hh : A.handled = none)
  (hit : s.heap.IsTupleIter it l i) (hl : s.heap.IsTuple l items) (hx : items[i]? = none)
  (hE : ∀ h' e, Heap.ExtBut it s.heap h' → (∃ o, h'.get? e = some o ∧ o.cls = .type "StopIteration") → E (.ref e) { s with heap := h' }) :
  wpAny (model prog w) A (Builtin.SmallTypes.nextOf (.ref it)) Q E s := by
 obtain ⟨o, ho, hc, hd⟩ := id hit
 obtain ⟨ol, hol, _, nl, hdl⟩ := hl
 unfold Builtin.SmallTypes.nextOf
 refine wpAny_bind (wpAny_callSpecial?_slot (name := Str.ofString "__next__") hit.typeIs F.slot_tuple_iterator_next
  (wpAny_call_entry F.slot_tuple_iterator_next hit.typeIs F.entry_tuple_iterator_next ?_ (F.args_tuple_iterator_next_1 _)))
 show wpAny _ _ (field (.ref it) 0 >>= _) _ _ s
 refine wpAny_bind (wpAny_field ho hd (x := .ref l) rfl ?_)
 show wpAny _ _ (if (Value.ref l == Value.none) = true then _ else _) _ _ s
 rw [if_neg (show ¬ ((Value.ref l == Value.none) = true) from Bool.false_ne_true)]
 show wpAny _ _ (field (.ref it) 1 >>= _) _ _ s
 refine wpAny_bind (wpAny_field ho hd (x := .int i 0) rfl ?_)
 show wpAny _ _ (seqItems? (.ref l) >>= _) _ _ s
 refine wpAny_bind (wpAny_seqItems hol hdl ?_)
 simp only [Int.toNat_natCast, hx]
 refine wpAny_bind (wpAny_rule (wpAny_bind (wpAny_setField ho hd (by simp) ?_)))
 show wpAny _ _ (newExc (.type "StopIteration") [] >>= _) _ _ _
 refine wpAny_bind ?_
 simp only [newExc, newTuple]
 refine wpAny_bind (wpAny_newObj_type ?_ (by size_fits))
 refine wpAny_bind (m := firstArgMember _ _) (wpAny_of_eq (a := Value.none) (by first | rfl | (simp only [firstArgMember]; rfl)) ?_)
 refine wpAny_newObj_type ?_ (by size_fits)
 simp only [raiseNew]
 refine wpAny_bind (wpAny_handled ?_)
 first | rw [show A.in1.handled = none from hh] | rw [hh]
 refine wpAny_bind (wpAny_pure (wpAny_throw ?_))
 exact hE _ _ (((Heap.SameBut.update ..).extBut.push _).push _) ⟨_, Heap.get?_push_size _ rfl, rfl⟩
theorem a9h (hh : A.handled = none) (it l : Addr) (hne : l ≠ it) (items : Array Value) :
  Draws prog w A it [it, l] items.size (fun i v => items[i]? = some v) (fun i h => h.IsTupleIter it l i ∧ h.IsTuple l items) where
 live := fun _ _ st => let ⟨o, ho, _⟩ := st.1; ⟨o, ho⟩
 frame := fun _ _ _ st hk => ⟨st.1.at fun o e => hk it (by simp) o e, st.2.at fun o e => hk l (by simp) o e⟩
 item := fun i s Q E hi st hQ => by
  refine a6m st.1 st.2 (x := items[i]) (by simp [hi]) fun h' hit' hs' => ?_
  exact hQ _ h' s.toks (by simp [hi]) ⟨hit', st.2.extBut hs'.extBut hne⟩ hs'
 done := fun s Q E st hE => a6U hh st.1 st.2 (by simp) hE
end
noncomputable def IttE (K : PySem.W.Frag) (a : Addr) (n : Nat) : It :=
 ⟨fun i H => i < n ∧ ∃ xs, SqT K H a xs ∧ xs.length = n, fun i H x H' => ∃ T y, x = .ref T ∧ H T = none ∧ H' = upd H T (.tup [.int i, y]) ∧ ∀ xs, SqT K H a xs → xs[i]? = some y, fun i H => i = n ∧ ∃ xs, SqT K H a xs ∧ xs.length = n⟩
theorem b1l {P : Program} {w : World} {K : PySem.W.Frag} {es : List Expr} {x1} {tp : Pos} (a e it : Addr) (n : Nat) (hne : e ≠ it) (hai : a ≠ it) (hae : a ≠ e) : Turn P w K (.Tuple es x1 tp) (IttE K a n) [e, it] e (fun i h => (∃ old, IsEnum h e it (i : Int) old) ∧ Heap.IsTupleIter h it a i) where
 mem := by simp
 obj := fun i h st b hb => by
  obtain ⟨⟨old, he⟩, hit⟩ := st
  have z : b = e ∨ b = it := by simpa using hb
  rcases z with rfl | rfl
  ·exact ⟨_, he, fun v z => by cases z⟩
  ·obtain ⟨o, q, c, d⟩ := hit
   exact ⟨o, q, fun v z => by rw [d] at z; cases z⟩
 keep := fun i h h' st k => by
  obtain ⟨⟨old, he⟩, hit⟩ := st
  exact ⟨⟨old, k e (by simp) _ he⟩, hit.at fun o q => k it (by simp) o q⟩
 item := by
  intro X hP hw hK hc i pins s σ H E I hf st hg
  subst hP hw hK
  obtain ⟨⟨old, he⟩, hit⟩ := st
  obtain ⟨hi, xs, hq, hxn⟩ := hg
  subst hxn
  obtain ⟨its, rv, p, hz⟩ := I.tuple hq
  obtain ⟨x, hx⟩ : ∃ x, xs[i]? = some x := ⟨_, List.getElem?_eq_getElem hi⟩
  obtain ⟨u, hu, ru⟩ := rv.get hx
  have fe := hf e (by simp)
  have fi := hf it (by simp)
  have hpt : s.heap.IsTuple a its.toArray := p
  have hsz0 : i < its.toArray.size := by have := rv.length; simp; lia
  refine wpAny_pyNext_enum_itemD (a9h (A := X.A.in1) (show X.A.in1.handled = none from I.ok.hd hc) it a hai its.toArray) he ⟨hit, hpt⟩ hsz0 hne (by simp [hne, hae.symm]) fun x' h1 tk hx' ho hit1 hT hsz hk => ?_
  obtain rfl : u = x' := by
   have e1 : its.toArray[i]? = some u := by simpa using hu
   exact Option.some.inj (e1.symm.trans hx')
  refine ⟨_, rfl, wpAny_letOwnedTupleGo_enum ho fun h2 he2 hs2 => ?_⟩
  have neT : s.heap.objs.size ≠ e := Nat.ne_of_gt (Heap.lt_size he)
  have k2 : ∀ b o, b ≠ e → b ≠ it → s.heap.get? b = some o → h2.get? b = some o := fun b o h3 h4 q => (hs2.2 b h3).trans (hk b o h3 h4 q)
  have hT2 : h2.get? s.heap.objs.size = some { cls := .type "tuple", data := .seq #[.int i tk, u] } := (hs2.2 _ neT).trans hT
  have hn : H s.heap.objs.size = none := I.hok.fresh (Nat.le_refl _)
  have I2 : Inv X pins σ (upd H s.heap.objs.size (.tup [.int i, x])) { s with heap := h2, toks := tk + 1 } := I.turnNew fe fi k2 (Nat.le_refl _)
   ⟨by simp only [List.length_cons, List.length_nil]; rw [sizeLine_eq]; decide, [.int i tk, u], .cons ⟨_, rfl⟩ (.cons ru .nil), _, hT2, rfl, rfl, _, rfl⟩
  refine ⟨.ref s.heap.objs.size, _, I2, rfl, ⟨_, x, rfl, hn, rfl, fun ys hy => by rw [I.tuple_inj hy hq]; exact hx⟩, ⟨⟨_, he2⟩, hit1.1.at fun o q => (hs2.2 it hne.symm).trans q⟩, fun b hb => ?_⟩
  have z : b = e ∨ b = it := by simpa using hb
  have hb' : b < s.heap.objs.size := by
   rcases z with rfl | rfl
   ·exact Heap.lt_size he
   ·obtain ⟨o, q, _⟩ := hit
    exact Heap.lt_size q
  rw [a0y (Nat.ne_of_lt hb')]
  exact (hf b hb).1
 done := by
  intro X hP hw hK hc i pins s σ H E I hf st hg
  subst hP hw hK
  obtain ⟨⟨old, he⟩, hit⟩ := st
  obtain ⟨hi, xs, hq, hxn⟩ := hg
  subst hi
  obtain ⟨its, rv, p, hz⟩ := I.tuple hq
  have hl := rv.length
  obtain ⟨f0, f1, f2, f3, f4, f5⟩ := hf it (by simp)
  have hpt : s.heap.IsTuple a its.toArray := p
  have hn2 : i = its.toArray.size := by simp; lia
  rw [hn2] at hit
  exact wpAny_pyNext_enum_endD (a9h (A := X.A.in1) (show X.A.in1.handled = none from I.ok.hd hc) it a hai its.toArray) he ⟨hit, hpt⟩ fun h' eb => ⟨rfl, I.turned (t' := s.toks) (fun b o hb e => eb b o hb e) f0 f1 f3 f4 f5⟩
 self := fun A i s Q E st h => by
  obtain ⟨⟨old, he⟩, _⟩ := st
  exact wpAny_pyIter_enum he h
section
variable {X : Cx}
theorem b1J {K : PySem.W.Frag} {H : Hp} {a : Addr} {xs : List V} {ts : List T} (h : SqT K H a xs) (r : Reps K H xs ts) : ItOk K H (IttE K a ts.length) ⟨enT ts, fun _ => True⟩ := by
 refine ⟨fun H' M' k hh _ => ⟨by show (enT ts).length = _; rw [a3a], xs, k.tup _ _ h, r.length⟩, fun i x H' M' e k hh _ => ?_⟩
 obtain ⟨t, ht, rfl⟩ := a6D e
 obtain ⟨v, e1, r1⟩ := r.get ht
 refine ⟨⟨(List.getElem?_eq_some_iff.mp ht).1, xs, k.tup _ _ h, r.length⟩, fun v' H'' y => ?_⟩
 obtain ⟨p, y, rfl, hn, rfl, hy⟩ := y
 have e2 := hy xs (k.tup _ _ h)
 rw [e1] at e2
 cases e2
 refine ⟨Kp.new hn, hh.keep hn, a2F (SqT.of a0O) ?_⟩
 unfold Reps
 refine ⟨_, _, rfl, a0U, ?_⟩
 unfold Reps
 refine ⟨_, _, rfl, Rep.kp (Kp.new hn) _ _ (Rep.kp k _ _ r1), ?_⟩
 unfold Reps
 rfl
noncomputable def b5r (tl : TE3) : TI3 := fun ρ M R => tl ρ M fun x M1 => match x with
 | .tup ts => R ⟨enT ts, fun _ => True⟩ M1
 | _ => False
theorem a8k {es : List Expr} {x1} {tp pos : Pos} {l : Expr} {tl : TE3} {p : Pos} (hm : X.mg "enumerate" = none) (hl : HE X l tl) (hg : Gl X "enumerate" := by rfl) (hs : starEach [l] X.env = [(false, eval l X.env)] := by rfl) : HI X (.Tuple es x1 tp) (.Call (.Name "enumerate" p) [l] [] pos) (b5r tl) := by
 intro ρ M R h pins s σ H R2 I b
 obtain ⟨hr, hh, en⟩ := b
 have pa := b2D (X := X) (hl.d (ρ := ρ)) b5n hs
 refine Call_ (a5F I hg hm PyProof.Rows.boot_enumerate (PyProof.Rows.callWith_type1 (thn (pa pos pins s σ H (fun vs H1 => ∃ v t M1, vs = [v] ∧ Kp X.K H H1 ∧ HR X.K H1 M1 ∧ Rep X.K H1 v t ∧ (match t with
  | .tup ts => R ⟨enT ts, fun _ => True⟩ M1
  | _ => False)) I ⟨M, _, h, hr, hh, fun t v M1 H1 k1 h1 r1 q1 => ⟨v, t, M1, rfl, k1, h1, r1, q1⟩⟩) fun us s1 ⟨vs, H1, I1, r1, v, t, M1, e, k1, h1, rt, q1⟩ => ?_) hs rfl))
 subst e
 cases r1 with
 | cons r rr =>
   cases rr
   split at q1
   ·rename_i ts
    obtain ⟨a, xs, rfl, g1, g2⟩ := a1n rt
    cases r
    obtain ⟨its, rv, p, hz⟩ := I1.tuple g1
    have hpt : s1.heap.IsTuple a its.toArray := p
    have ha : a < s1.heap.objs.size := by obtain ⟨o, ho, _⟩ := hpt; exact Heap.lt_size ho
    refine b1T hpt fun h' he hit hsz hk => ?_
    refine wpAny_pyIter_enum (s := { s1 with heap := h' }) he ?_
    refine ⟨s1.heap.objs.size + 1, [s1.heap.objs.size + 1, s1.heap.objs.size], _, _, H1, rfl, I1.kept (t' := s1.toks) hk, b1l a _ _ ts.length (Nat.succ_ne_self _) (Nat.ne_of_lt ha) (Nat.ne_of_lt (Nat.lt_succ_of_lt ha)), ⟨⟨_, he⟩, hit⟩, fun b hb => ?_, en _ _ M1 H1 k1 h1 (b1J g1 g2) q1⟩
    have z : b = s1.heap.objs.size + 1 ∨ b = s1.heap.objs.size := by simpa using hb
    rcases z with rfl | rfl
    ·exact I1.fpOk (Nat.le_succ _) (I1.hok.fresh (Nat.le_succ _))
    ·exact I1.fpOk (Nat.le_refl _) (I1.hok.fresh (Nat.le_refl _))
   ·exact q1.elim
end
theorem a8B {es rest : List Expr} {x1} {pos : Pos} {env : Env} : starEach (.Tuple es x1 pos :: rest) env = (false, eval (.Tuple es x1 pos) env) :: starEach rest env := rfl
theorem a1p {X : Cx} {es1 es : List Expr} {x1} {pos : Pos} {ta : TE3} {t : TA3} (ha : HE X (.Tuple es1 x1 pos) ta) (hr : HA X es t) : HA X (.Tuple es1 x1 pos :: es) (b2f ta t) := a0a ha hr (hs := a8B)
end L2
namespace L2
open PySem PySem.Spec PyProof.Rows
section
variable {prog : Program} {w : World} {A : Around} {E : Value → Shared → Prop} {s : Shared}
theorem b0m {l : Addr} {vs : List Value} {Q : List Value → Shared → Prop} (hl : s.heap.IsTuple l vs.toArray)
  (h : Q vs { s with heap := (s.heap.push (seqObj "list" #[] 0)).update s.heap.objs.size (Obj.mapSeq (· ++ vs.toArray)) }) (hsz : vs.length ≤ sizeLine) :
  wpAny (model prog w) A (collect (.ref l)) Q E s := by
 obtain ⟨o, ho, hc, n, hd⟩ := id hl
 unfold collect
 refine wpAny_bind (wpAny_runValue (codeAny_builtin entry_proto_collect' ?_))
 show wpAny _ _ (do again (.builtin "list.__iadd__" ⟨[← newList [], .ref l], []⟩)) _ _ s
 refine wpAny_bind (wpAny_newList (wpAny_pure ⟨Code.quiet_builtin _ (by decide +kernel), codeAny_builtin entry_list_iadd' ?_⟩))
 show wpAny _ _ (Builtin.List.listExtendWith (.ref s.heap.objs.size) (.ref l) (.ref s.heap.objs.size)) _ _ { s with heap := s.heap.push (seqObj "list" #[] 0) }
 unfold Builtin.List.listExtendWith
 have ho' : (s.heap.push (seqObj "list" #[] 0)).get? l = some o := Heap.get?_push_of_some _ ho
 refine wpAny_bind (wpAny_typeOf (T := "tuple") ⟨o, ho', hc⟩ ?_)
 have ht : (Value.type "tuple" == Value.type "tuple") = true := by rfl
 rw [if_pos (by rw [ht]; simp)]
 refine wpAny_bind (listItems_at ho' hd ?_)
 refine wpAny_bind (listItems_at (xs := #[]) (n := 0) (Heap.get?_push_size _ rfl) rfl ?_)
 rw [if_neg (by simp)]
 refine wpAny_bind (listUpdate_at (xs := #[]) (n := 0) (Heap.get?_push_size _ rfl) rfl ?_ (Nat.zero_le _) (by show (#[] ++ vs.toArray).size ≤ sizeLine + 1; simp only [Array.size_append, List.size_toArray, List.length_nil]; lia))
 refine wpAny_pure ?_
 show wpAny (model prog w) A (do
   let o ← load s.heap.objs.size
   match o.data with
   | .seq xs _ => pure xs.toList
   | _ => unsupported "internal:collect") Q E { s with heap := (s.heap.push (seqObj "list" #[] 0)).update s.heap.objs.size (Obj.mapSeq (· ++ vs.toArray)) }
 refine wpAny_bind (wpAny_load (get?_update_seq (Heap.get?_push_size _ rfl) _) ?_)
 show wpAny _ _ (pure ((#[] : Array Value) ++ vs.toArray).toList) Q E _
 rw [show ((#[] : Array Value) ++ vs.toArray).toList = vs by simp]
 exact wpAny_pure h
theorem a8C {l : Addr} {vs : List Value} {ns : List Int} {Q : Value → Shared → Prop} (hI : IntsAre vs ns) (h64 : vs.length < 64)
  (hcol : ∀ (Q' : List Value → Shared → Prop), Q' vs { s with heap := (s.heap.push (seqObj "list" #[] 0)).update s.heap.objs.size (Obj.mapSeq (· ++ vs.toArray)) } → wpAny (model prog w) A.in1 (collect (.ref l)) Q' E s)
  (h : ∀ (out : Array Value) (ns' : List Int), IntsAre out.toList ns' → ns'.Perm ns → ns'.Pairwise (· ≤ ·) → Q (.ref (s.heap.objs.size + 1)) { s with heap := sortedAll s.heap vs out }) :
  wpAny (model prog w) A (call (.builtin "sorted") [.ref l]) Q E s := by
 refine Calls.call_function_entry kind_sorted plain_sorted entry_sorted (args_sorted1 _) ?_
 unfold Builtin.«sorted»
 refine wpAny_bind (m := checkCount "sorted" 1 1 _) (wpAny_pure ?_)
 refine wpAny_bind (hcol _ ?_)
 refine wpAny_bind (wpAny_newList ?_)
 have hsz : ((s.heap.push (seqObj "list" #[] 0)).update s.heap.objs.size (Obj.mapSeq (· ++ vs.toArray))).objs.size = s.heap.objs.size + 1 := by
  rw [Heap.size_update, size_push']
 have hoL : (((s.heap.push (seqObj "list" #[] 0)).update s.heap.objs.size (Obj.mapSeq (· ++ vs.toArray))).push (seqObj "list" vs.toArray 0)).get? (s.heap.objs.size + 1) = some (seqObj "list" vs.toArray 0) := by
  rw [← hsz]; exact Heap.get?_push_size _ rfl
 show wpAny _ _ _ _ _ { s with heap := ((s.heap.push (seqObj "list" #[] 0)).update s.heap.objs.size (Obj.mapSeq (· ++ vs.toArray))).push (seqObj "list" vs.toArray 0) }
 rw [hsz]
 refine wpAny_bind (wpAny_holding (wpAny_call_entry slot_list_sort ⟨_, hoL, rfl⟩ entry_list_sort (list_sort_tree hoL hI h64 fun out ns' a1 a2 a3 => ⟨_, rfl, ?_⟩) (args_list_sort _)))
 exact wpAny_pure ⟨_, rfl, h out ns' a1 a2 a3⟩
end
section
variable {X : Cx}
theorem a4A : a6R X (.builtin "sorted") (fun xs H Q => ∃ p ns, xs = [.ref p] ∧ (SqL X.K H p (ns.map V.int) ∨ SqT X.K H p (ns.map V.int)) ∧ ns.length < 64 ∧ ∀ ms : List Int, ms.Perm ns → ms.Pairwise (· ≤ ·) → ∀ l, H l = none → Q (.ref l) (upd H l (.lst (ms.map V.int)))) := by
 intro pins s σ H xs us Q I r h
 obtain ⟨p, ns, rfl, hq, h64, q⟩ := h
 obtain ⟨u, rfl, rx⟩ := a5k r
 cases rx
 have fin : ∀ (its : List Value), its.length = ns.length → ∀ (out : Array Value) (ns' : List Int), IntsAre out.toList ns' → ns'.Perm ns → ns'.Pairwise (· ≤ ·) → EP X pins σ Q (.ref (s.heap.objs.size + 1)) { s with heap := sortedAll s.heap its out } := by
  intro its hl out ns' h1 h2 h3
  obtain ⟨e, he⟩ := sortedAll_at s.heap its out
  have hv := a5V h1
  have hn : ns'.length ≤ sizeLine := by rw [h2.length_eq, sizeLine_eq]; lia
  refine ⟨.ref (s.heap.objs.size + 1), _, I.laid (t' := s.toks) (fun b o hb => sortedAll_old hb) (Nat.le_succ _) (show a2J X.prog X.w _ (sortedAll s.heap its out) _ (.lst (ns'.map V.int)) from ⟨by rw [List.length_map]; exact hn, out.toList, e, hv, by rw [Array.toArray_toList]; exact he⟩), rfl, q ns' h2 h3 _ (I.hok.fresh (Nat.le_succ _))⟩
 rcases hq with hq | hq
 ·obtain ⟨its, r', pl, hz⟩ := I.list hq
  have hlen : its.length = ns.length := by have := r'.length; rw [List.length_map] at this; lia
  have hl := pl.isList
  exact a8C (vs := its) (a7l r') (by lia) (fun Q' q' => collect_list (by simpa using hl) q' (by rw [sizeLine_eq]; lia)) (fin its hlen)
 ·obtain ⟨its, r', pl, hz⟩ := I.tuple hq
  have hlen : its.length = ns.length := by have := r'.length; rw [List.length_map] at this; lia
  have hl : s.heap.IsTuple p its.toArray := pl
  exact a8C (vs := its) (a7l r') (by lia) (fun Q' q' => b0m hl q' (by rw [sizeLine_eq]; lia)) (fin its hlen)
noncomputable def a7N : List T → MH → VK3 → Prop := fun xs M Q => match xs with
 | [.tup ts] => ∃ ns : List Int, ts = ns.map .int ∧ ns.length < 64 ∧ ∀ ms : List Int, ms.Perm ns → ms.Pairwise (· ≤ ·) → ∀ r, M r = none → Q (.adr r) (updM M r (.lst (ms.map .int)))
 | [.adr p] => (match M p with | some (.lst ts) => ∃ ns : List Int, ts = ns.map .int ∧ ns.length < 64 ∧ ∀ ms : List Int, ms.Perm ns → ms.Pairwise (· ≤ ·) → ∀ r, M r = none → Q (.adr r) (updM M r (.lst (ms.map .int))) | _ => False)
 | _ => False
theorem a6d {K : PySem.W.Frag} {H : Hp} : ∀ {ns : List Int} {vs : List V}, Reps K H vs (ns.map .int) → vs = ns.map V.int
 | [], _, r => by unfold Reps at r; exact r
 | n :: ns, _, r => by
   rw [List.map_cons] at r
   unfold Reps at r
   obtain ⟨v, w, rfl, r1, r2⟩ := r
   obtain rfl := a0z r1
   rw [a6d r2]
   rfl
theorem a6t {K : PySem.W.Frag} {H : Hp} : ∀ ns : List Int, Reps K H (ns.map V.int) (ns.map .int)
 | [] => by rw [List.map_nil, List.map_nil]; unfold Reps; rfl
 | n :: ns => by
   rw [List.map_cons, List.map_cons]
   unfold Reps
   exact ⟨_, _, rfl, a0U, a6t ns⟩
theorem a9s : a5i X (.builtin "sorted") a7N := by
 intro pins s σ H vs us Q2 I r h
 obtain ⟨xs, M, Q, rr, hh, q, en⟩ := h
 unfold a7N at q
 split at q
 ·obtain ⟨v, rfl, r1⟩ := a2z rr
  obtain ⟨p, ys, rfl, g1, g2⟩ := a1n r1
  obtain ⟨ns, rfl, h64, q⟩ := q
  obtain rfl := a6d g2
  exact a4A pins s σ H _ us Q2 I r ⟨p, ns, rfl, .inr g1, h64, fun ms h1 h2 l hl => en _ _ _ _ (Kp.new hl) (hh.newL hl (a6t ms)) a2G (q ms h1 h2 l (hh.free hl))⟩
 ·obtain ⟨v, rfl, r1⟩ := a2z rr
  obtain rfl := a0I r1
  split at q
  ·rename_i ts e0
   obtain ⟨ns, rfl, h64, q⟩ := q
   obtain ⟨ys, g1, g2⟩ := hh _ _ e0
   obtain rfl := a6d g2
   exact a4A pins s σ H _ us Q2 I r ⟨_, ns, rfl, .inl (SqL.of g1), h64, fun ms h1 h2 l hl => en _ _ _ _ (Kp.new hl) (hh.newL hl (a6t ms)) a2G (q ms h1 h2 l (hh.free hl))⟩
  ·exact q.elim
 ·exact q.elim
theorem _root_.L2.Reps.erase {K : PySem.W.Frag} {H : Hp} {vs : List V} {ts : List T} (r : Reps K H vs ts) (k : Nat) : Reps K H (vs.eraseIdx k) (ts.eraseIdx k) := by
 rw [List.eraseIdx_eq_take_drop_succ, List.eraseIdx_eq_take_drop_succ]
 exact (r.take k).append (r.drop (k + 1))
noncomputable def a7O : RM3 := fun x xs M Q => match x, xs with
 | .adr p, [.int i] => (match M p with | some (.lst ts) => 0 ≤ i ∧ i < ts.length ∧ ts.length < 2 ^ 62 ∧ (match ts[i.toNat]? with | some y => Q y (updM M p (.lst (ts.eraseIdx i.toNat))) | none => False) | _ => False)
 | _, _ => False
theorem b2S : MtR3 X "list.pop" a7O := by
 intro pins s σ H v vs u us Q2 I rv rvs h
 obtain ⟨x, xs, M, Q, r1, r2, hh, q, en⟩ := h
 unfold a7O at q
 split at q
 ·rename_i p i
  split at q
  ·rename_i ts e0
   obtain ⟨h0, h1, h2, q⟩ := q
   obtain ⟨ys, g1, g2⟩ := hh _ _ e0
   obtain rfl := a0I r1
   obtain ⟨w, rfl, rw'⟩ := a2z r2
   obtain rfl := a0z rw'
   split at q
   ·rename_i y ey
    obtain ⟨w2, ew, rw2⟩ := g2.get ey
    have hl := g2.length
    exact b4A pins s σ H _ _ u us Q2 I rv rvs ⟨_, ys, i, i.toNat, w2, rfl, rfl, g1, by lia, by lia, seqIndex_of h0 (by lia), ew, en _ _ _ _ (Kp.lst g1) (hh.setL g1 (g2.erase _)) (Rep.kp (Kp.lst g1) _ _ rw2) q⟩
   ·exact q.elim
  ·exact q.elim
 ·exact q.elim
theorem b3k {o e : Expr} {es : List Expr} {to : TE3} {t : TA3} {apos cpos : Pos} (ho : HE X o to) (ha : HA X (e :: es) t)
  (hbase : attributeBase o "pop" X.env (eval o X.env) = eval o X.env := by rfl)
  (hfew : ((backTo cpos (starEach (e :: es) X.env)).all (fun x => !x.1) && (backToKw cpos (keywordEach [] X.env)).all (fun x => x.1.isSome)
   && decide ((e :: es).length + ([] : List Keyword).length + (if ([] : List Keyword).isEmpty then 0 else 1) < 30)) = true := by rfl)
  (hline : (apos.endLine == cpos.line) = true := by rfl) (hs : starEach (e :: es) X.env = (false, eval e X.env) :: starEach es X.env := by rfl) (hplain : (backTo cpos (starEach es X.env)).any (·.1) = false := by rfl) :
  HE X (.Call (.Attribute o "pop" apos) (e :: es) [] cpos) (tLM3 a7O to t) := h_lm PySem.F.slot_list_pop PySem.F.type_list_pop b2S ho ha hbase hfew hline hs hplain
end
theorem a6q {α : Type} {us : List α} {P : List α → Prop} (hl : us.length = 1) (h : ∀ a : α, P [a]) : P us := by
 obtain ⟨a, rfl⟩ := List.length_eq_one_iff.mp hl
 exact h a
theorem a3W {α : Type} {us : List α} {P : List α → Prop} (hl : us.length = 2) (h : ∀ a b : α, P [a, b]) : P us := by
 obtain ⟨a, r, rfl⟩ := List.exists_cons_of_length_eq_add_one hl
 exact a6q (P := fun r => P (a :: r)) (Nat.succ.inj hl) (h a)
theorem b2W {α : Type} {us : List α} {P : List α → Prop} (hl : us.length = 3) (h : ∀ a b c : α, P [a, b, c]) : P us := by
 obtain ⟨a, r, rfl⟩ := List.exists_cons_of_length_eq_add_one hl
 exact a3W (P := fun r => P (a :: r)) (Nat.succ.inj hl) (h a)
theorem b4E {α : Type} {us : List α} {P : List α → Prop} (hl : us.length = 4) (h : ∀ a b c d : α, P [a, b, c, d]) : P us := by
 obtain ⟨a, r, rfl⟩ := List.exists_cons_of_length_eq_add_one hl
 exact b2W (P := fun r => P (a :: r)) (Nat.succ.inj hl) (h a)
theorem b9A {α : Type} {us : List α} {P : List α → Prop} (hl : us.length = 5) (h : ∀ a b c d e : α, P [a, b, c, d, e]) : P us := by
 obtain ⟨a, r, rfl⟩ := List.exists_cons_of_length_eq_add_one hl
 exact b4E (P := fun r => P (a :: r)) (Nat.succ.inj hl) (h a)
section
variable {X : Cx}
end
section
variable {X : Cx}
end
end L2
namespace L2
open PySem PySem.Spec PyProof.Rows LM
section
variable {κ : Type} [DecidableEq κ]
theorem b0t (k j : κ) (y : T) : ∀ kvs : List (κ × T), valT (kvs.map fun kv => if kv.1 = k then (kv.1, y) else kv) j = if j = k then (valT kvs j).map (fun _ => y) else valT kvs j
 | [] => by show (none : Option T) = _; split <;> rfl
 | p :: r => by
   have ih := b0t k j y r
   rw [List.map_cons, a3r, a3r, ih]
   by_cases c : p.1 = k
   ·rw [if_pos c]
    by_cases d : p.1 = j
    ·rw [if_pos d, if_pos d, if_pos (d.symm.trans c)]; rfl
    ·rw [if_neg d, if_neg d]
   ·rw [if_neg c]
    by_cases d : p.1 = j
    ·rw [if_pos d, if_pos d, if_neg (fun z => c (d.trans z))]
    ·rw [if_neg d, if_neg d]
theorem a8x (k j : κ) (y : T) : ∀ kvs : List (κ × T), valT (kvs ++ [(k, y)]) j = match valT kvs j with | some t => some t | none => if k = j then some y else none
 | [] => by rw [List.nil_append, a3r]; rfl
 | p :: r => by
   rw [List.cons_append, a3r, a3r, a8x k j y r]
   by_cases d : p.1 = j
   ·rw [if_pos d, if_pos d]
   ·rw [if_neg d, if_neg d]
theorem b0u (k : κ) : ∀ kvs : List (κ × T), (kvs.any fun kv => decide (kv.1 = k)) = (valT kvs k).isSome
 | [] => rfl
 | p :: r => by
   rw [List.any_cons, a3r, b0u k r]
   by_cases e : p.1 = k
   ·rw [if_pos e, decide_eq_true e]; rfl
   ·rw [if_neg e, decide_eq_false e]; rfl
theorem b3V (kvs : List (κ × T)) (k j : κ) (y : T) : valT (putT kvs k y) j = if j = k then some y else valT kvs j := by
 unfold putT
 rw [b0u]
 by_cases c : (valT kvs k).isSome = true
 ·rw [if_pos c, b0t]
  by_cases d : j = k
  ·rw [if_pos d, if_pos d]
   subst d
   cases e : valT kvs j with
   | none => rw [e] at c; cases c
   | some t => rfl
  ·rw [if_neg d, if_neg d]
 ·rw [if_neg c, a8x]
  have hn : valT kvs k = none := by
   cases e : valT kvs k with
   | none => rfl
   | some t => rw [e] at c; exact absurd rfl c
  by_cases d : j = k
  ·subst d
   rw [hn]
  ·rw [if_neg d]
   cases valT kvs j with
   | none => rw [if_neg (fun z => d z.symm)]
   | some t => rfl
theorem b4j (kvs : List (κ × T)) (k : κ) (y : T) : (putT kvs k y).length ≤ kvs.length + 1 := by
 unfold putT
 split
 ·rw [List.length_map]; lia
 ·rw [List.length_append]; exact Nat.le_refl _
end
section
variable {X : Cx}
end
noncomputable def g2 (tab : List (List Int)) (a b : Int) : Int := gI (tab.getD a.toNat []) b
noncomputable def shB (tab : List (List Int)) : Bool := decide (1 ≤ tab.length) && decide (tab.length ≤ 7) && tab.all fun r => decide (r.length = tab.length)
noncomputable def coB (tab : List (List Int)) (c : Int) : Bool := decide (g2 tab c c = c) && decide ((tab.map fun r => gI r c).Perm (a0l tab.length))
noncomputable def thA (tab : List (List Int)) (c a : Int) : Bool := (a0l tab.length).all fun b => decide (g2 tab (g2 tab a b) c = g2 tab (g2 tab a c) (g2 tab b c))
noncomputable def thB (tab : List (List Int)) (c : Int) : Bool := (a0l tab.length).all (thA tab c)
noncomputable def tabB (tab : List (List Int)) : Bool := shB tab && ((a0l tab.length).all (coB tab)) && ((a0l tab.length).all (thB tab))
noncomputable def InM (m c : Int) : Prop := 0 ≤ c ∧ c < m
structure TabQ (tab : List (List Int)) : Prop where
 l1 : 1 ≤ tab.length
 rows : ∀ r ∈ tab, r.length = tab.length
 idem : ∀ c, InM tab.length c → g2 tab c c = c
 col : ∀ c, InM tab.length c → (tab.map fun r => gI r c).Perm (a0l tab.length)
 third : ∀ a b c, InM tab.length a → InM tab.length b → InM tab.length c → g2 tab (g2 tab a b) c = g2 tab (g2 tab a c) (g2 tab b c)
structure TabOK (tab : List (List Int)) : Prop extends TabQ tab where
 l7 : tab.length ≤ 7
instance {tab : List (List Int)} : Coe (TabOK tab) (TabQ tab) := ⟨TabOK.toTabQ⟩
theorem a9F {tab : List (List Int)} : shB tab = true ↔ 1 ≤ tab.length ∧ tab.length ≤ 7 ∧ ∀ r ∈ tab, r.length = tab.length := by
 unfold shB
 rw [Bool.and_eq_true, Bool.and_eq_true, decide_eq_true_eq, decide_eq_true_eq, List.all_eq_true]
 simp only [decide_eq_true_eq, and_assoc]
theorem a0h {m c : Int} : c ∈ a0l m ↔ InM m c := ⟨a7h, fun h => b1q h.1 h.2⟩
theorem a4C {tab : List (List Int)} (h : tabB tab = true) : TabOK tab := by
 unfold tabB at h
 rw [Bool.and_eq_true, Bool.and_eq_true, List.all_eq_true, List.all_eq_true] at h
 obtain ⟨⟨h1, h2⟩, h3⟩ := h
 obtain ⟨a, b, c⟩ := a9F.mp h1
 refine ⟨⟨a, c, fun x hx => ?_, fun x hx => ?_, fun x y z hx hy hz => ?_⟩, b⟩
 ·have := h2 x (a0h.mpr hx)
  unfold coB at this
  rw [Bool.and_eq_true, decide_eq_true_eq] at this
  exact this.1
 ·have := h2 x (a0h.mpr hx)
  unfold coB at this
  rw [Bool.and_eq_true, decide_eq_true_eq, decide_eq_true_eq] at this
  exact this.2
 ·have := h3 z (a0h.mpr hz)
  unfold thB at this
  rw [List.all_eq_true] at this
  have := this x (a0h.mpr hx)
  unfold thA at this
  rw [List.all_eq_true] at this
  exact of_decide_eq_true (this y (a0h.mpr hy))
theorem a5l {tab : List (List Int)} (hr : ∀ r ∈ tab, r.length = tab.length) {a : Int} (ha : InM tab.length a) : atI (tab.map tupT) a = some (T.tup ((tab.getD a.toNat []).map T.int)) ∧ (tab.getD a.toNat []).length = tab.length := by
 obtain ⟨i, rfl⟩ := Int.eq_ofNat_of_zero_le ha.1
 have hi : i < tab.length := by have := ha.2; lia
 rw [Int.toNat_natCast]
 refine ⟨b5G hi, hr _ ?_⟩
 rw [List.getD_eq_getElem?_getD, List.getElem?_eq_getElem hi]
 exact List.getElem_mem hi
theorem b0w {tab : List (List Int)} (hr : ∀ r ∈ tab, r.length = tab.length) {a b : Int} (ha : InM tab.length a) (hb : InM tab.length b) : atI ((tab.getD a.toNat []).map T.int) b = some (.int (g2 tab a b)) :=
 b1O hb.1 (by rw [(a5l hr ha).2]; exact hb.2)
theorem b5y {tab : List (List Int)} {c : Int} (h : (tab.map fun r => gI r c).Perm (a0l tab.length)) {a : Int} (ha : InM tab.length a) : InM tab.length (g2 tab a c) := by
 have hl : a.toNat < tab.length := by have := ha.1; have := ha.2; lia
 have hm : g2 tab a c ∈ tab.map fun r => gI r c := by
  refine List.mem_map.mpr ⟨tab.getD a.toNat [], ?_, rfl⟩
  rw [List.getD_eq_getElem?_getD, List.getElem?_eq_getElem hl]
  exact List.getElem_mem hl
 exact a7h (h.mem_iff.mp hm)
theorem TabQ.rng {tab : List (List Int)} (h : TabQ tab) {a c : Int} (ha : InM tab.length a) (hc : InM tab.length c) : InM tab.length (g2 tab a c) := b5y (h.col c hc) ha
theorem b0n {tab : List (List Int)} {c a : Int} (ha : InM tab.length a) : (tab.map fun r => gI r c)[a.toNat]? = some (g2 tab a c) := by
 have hl : a.toNat < tab.length := by have := ha.1; have := ha.2; lia
 rw [List.getElem?_map, List.getElem?_eq_getElem hl]
 unfold g2
 rw [List.getD_eq_getElem?_getD, List.getElem?_eq_getElem hl]
 rfl
theorem TabQ.inj {tab : List (List Int)} (h : TabQ tab) {a b c : Int} (ha : InM tab.length a) (hb : InM tab.length b) (hc : InM tab.length c) (e : g2 tab a c = g2 tab b c) : a = b := by
 have nd : (tab.map fun r => gI r c).Nodup := (h.col c hc).nodup_iff.mpr (a3S _)
 have x := b0n (tab := tab) (c := c) ha
 have y := b0n (tab := tab) (c := c) hb
 obtain ⟨l1, x⟩ := List.getElem?_eq_some_iff.mp x
 obtain ⟨l2, y⟩ := List.getElem?_eq_some_iff.mp y
 have q : a.toNat = b.toNat := by
  have pw := List.pairwise_iff_getElem.mp nd
  rcases Nat.lt_trichotomy a.toNat b.toNat with z | z | z
  ·exact absurd (x.trans (e.trans y.symm)) (pw _ _ l1 l2 z)
  ·exact z
  ·exact absurd (y.trans (e.symm.trans x.symm)) (pw _ _ l2 l1 z)
 have := ha.1; have := hb.1; lia
theorem TabQ.surj {tab : List (List Int)} (h : TabQ tab) {d c : Int} (hd : InM tab.length d) (hc : InM tab.length c) : ∃ a, InM tab.length a ∧ g2 tab a c = d := by
 have hm : d ∈ tab.map fun r => gI r c := (h.col c hc).mem_iff.mpr (a0h.mpr hd)
 obtain ⟨i, hi, e⟩ := List.getElem_of_mem hm
 rw [List.length_map] at hi
 have ha : InM tab.length (i : Int) := ⟨by lia, by lia⟩
 refine ⟨i, ha, ?_⟩
 have := b0n (tab := tab) (c := c) ha
 rw [Int.toNat_natCast] at this
 rw [List.getElem?_eq_getElem (by rw [List.length_map]; exact hi)] at this
 exact (Option.some.inj this).symm.trans e
noncomputable def iv (tab : List (List Int)) (d c : Int) : Int := ((a0l tab.length).find? fun a => decide (g2 tab a c = d)).getD 0
theorem TabQ.iv_spec {tab : List (List Int)} (h : TabQ tab) {d c : Int} (hd : InM tab.length d) (hc : InM tab.length c) : InM tab.length (iv tab d c) ∧ g2 tab (iv tab d c) c = d := by
 obtain ⟨a, ha, e⟩ := h.surj hd hc
 unfold iv
 cases q : (a0l tab.length).find? fun a => decide (g2 tab a c = d) with
 | none =>
   have := List.find?_eq_none.mp q a (a0h.mpr ha)
   rw [decide_eq_true e] at this
   exact absurd rfl this
 | some x =>
   exact ⟨a0h.mp (List.mem_of_find?_eq_some q), of_decide_eq_true (List.find?_some q :)⟩
theorem TabQ.iv_g {tab : List (List Int)} (h : TabQ tab) {a c : Int} (ha : InM tab.length a) (hc : InM tab.length c) : iv tab (g2 tab a c) c = a :=
 let q := h.iv_spec (h.rng ha hc) hc
 h.inj q.1 ha hc q.2
theorem b6W {tab : List (List Int)} (hr : ∀ r ∈ tab, r.length = tab.length) {r : List Int} {i : Nat} {c : Int} (h : tab[i]? = some r) (hc : InM tab.length c) : atI (r.map T.int) c = some (.int (gI r c)) :=
 b1O hc.1 (by rw [hr r (List.mem_of_getElem? h)]; exact hc.2)
theorem b3F {tab : List (List Int)} {c : Int} (hc : InM tab.length c) (h : coB tab c ≠ true) : tabB tab = false := by
 refine Bool.eq_false_iff.mpr fun z => h ?_
 unfold tabB at z
 rw [Bool.and_eq_true, Bool.and_eq_true] at z
 exact List.all_eq_true.mp z.1.2 c (a0h.mpr hc)
theorem b6Z {tab : List (List Int)} (h : ∀ c, InM tab.length c → coB tab c = true) {a b : Int} (ha : InM tab.length a) (hb : InM tab.length b) : InM tab.length (g2 tab a b) := by
 have := h b hb
 unfold coB at this
 rw [Bool.and_eq_true, decide_eq_true_eq, decide_eq_true_eq] at this
 exact b5y this.2 ha
noncomputable def pr1 (tab : List (List Int)) (l a b : Int) : Int := if l > 0 then b else iv tab b a
noncomputable def pr2 (tab : List (List Int)) (l a b : Int) : Int := if l > 0 then g2 tab a b else a
noncomputable def dn1 (tab : List (List Int)) (cs : List Int) (l : Int) : List Int := (cs.set (l.natAbs - 1) (pr1 tab l (cs.getD (l.natAbs - 1) 0) (cs.getD l.natAbs 0))).set l.natAbs (pr2 tab l (cs.getD (l.natAbs - 1) 0) (cs.getD l.natAbs 0))
noncomputable def dn (tab : List (List Int)) (w cs : List Int) : List Int := w.foldl (dn1 tab) cs
theorem a2j (tab : List (List Int)) (u v cs : List Int) : dn tab (u ++ v) cs = dn tab v (dn tab u cs) := List.foldl_append
theorem b6T (tab : List (List Int)) {w : List Int} {i : Nat} {l : Int} (h : w[i]? = some l) (cs : List Int) : dn tab (w.take (i + 1)) cs = dn1 tab (dn tab (w.take i) cs) l := by
 rw [List.take_add_one, h, a2j]
 rfl
theorem b8K {tab : List (List Int)} {ds : List Int} {l : Int} {k : Nat} (hk : l.natAbs = k + 1) (h : k + 1 < ds.length) : (dn1 tab ds l).map T.int = ((ds.map T.int).set k (.int (pr1 tab l (gI ds k) (gI ds (k + 1))))).set (k + 1) (.int (pr2 tab l (gI ds k) (gI ds (k + 1)))) := by
 unfold dn1 gI
 rw [hk, Nat.add_sub_cancel, List.map_set, List.map_set, Int.toNat_natCast, show ((k : Int) + 1).toNat = k + 1 by lia]
theorem a3x (tab : List (List Int)) (cs : List Int) (l : Int) : (dn1 tab cs l).length = cs.length := by unfold dn1; rw [List.length_set, List.length_set]
theorem a3g (tab : List (List Int)) : ∀ (w cs : List Int), (dn tab w cs).length = cs.length
 | [], _ => rfl
 | l :: w, cs => (a3g tab w (dn1 tab cs l)).trans (a3x tab cs l)
theorem a2I {tab : List (List Int)} {p q : List Int} {a b l : Int} (h : p.length + 1 = l.natAbs) : dn1 tab (p ++ a :: b :: q) l = p ++ pr1 tab l a b :: pr2 tab l a b :: q := by
 unfold dn1
 have e1 : l.natAbs - 1 = p.length := by lia
 have g1 : (p ++ a :: b :: q).getD p.length 0 = a := by simp
 have g2' : (p ++ a :: b :: q).getD (p.length + 1) 0 = b := by rw [List.getD_eq_getElem?_getD, List.getElem?_append_right (by lia)]; simp
 rw [e1, ← h, g1, g2']
 simp
theorem cutC {cs : List Int} {k : Nat} (h : k + 1 < cs.length) : ∃ p a b q, cs = p ++ a :: b :: q ∧ p.length = k := by
 refine ⟨cs.take k, cs[k], cs[k + 1], cs.drop (k + 2), ?_, by rw [List.length_take]; lia⟩
 rw [List.getElem_cons_drop, List.getElem_cons_drop, List.take_append_drop]
noncomputable def InA (m : Int) (cs : List Int) : Prop := ∀ c ∈ cs, InM m c
theorem b7X {tab : List (List Int)} (h : TabQ tab) {l a b : Int} (ha : InM tab.length a) (hb : InM tab.length b) : InM tab.length (pr1 tab l a b) ∧ InM tab.length (pr2 tab l a b) := by
 unfold pr1 pr2
 split
 ·exact ⟨hb, h.rng ha hb⟩
 ·exact ⟨(h.iv_spec hb ha).1, ha⟩
theorem a8j {m a b : Int} {p q : List Int} : InA m (p ++ a :: b :: q) ↔ InA m p ∧ InM m a ∧ InM m b ∧ InA m q := by
 constructor
 ·intro h
  exact ⟨fun c hc => h c (by simp [hc]), h a (by simp), h b (by simp), fun c hc => h c (by simp [hc])⟩
 ·rintro ⟨h1, h2, h3, h4⟩ c hc
  simp only [List.mem_append, List.mem_cons] at hc
  rcases hc with hc | rfl | rfl | hc
  ·exact h1 c hc
  ·exact h2
  ·exact h3
  ·exact h4 c hc
theorem b3x {tab : List (List Int)} (h : TabQ tab) {cs : List Int} {l : Int} (hl : LetOK cs.length l) (hc : InA tab.length cs) : InA tab.length (dn1 tab cs l) := by
 obtain ⟨l1, l2⟩ := hl
 obtain ⟨p, a, b, q, rfl, e⟩ := cutC (cs := cs) (k := l.natAbs - 1) (by lia)
 rw [a2I (by lia)]
 obtain ⟨h1, h2, h3, h4⟩ := a8j.mp hc
 exact a8j.mpr ⟨h1, (b7X h h2 h3).1, (b7X h h2 h3).2, h4⟩
theorem b1R {tab : List (List Int)} (h : TabQ tab) : ∀ {w cs : List Int}, WordOK cs.length w → InA tab.length cs → InA tab.length (dn tab w cs)
 | [], _, _, hc => hc
 | l :: w, cs, hw, hc => b1R h (w := w) (cs := dn1 tab cs l) (by rw [a3x]; exact fun x hx => hw x (List.mem_cons_of_mem _ hx)) (b3x h (hw l List.mem_cons_self) hc)
theorem b6p {tab : List (List Int)} (h : TabQ tab) {l a b : Int} (l0 : l ≠ 0) (ha : InM tab.length a) (hb : InM tab.length b) : pr1 tab (-l) (pr1 tab l a b) (pr2 tab l a b) = a ∧ pr2 tab (-l) (pr1 tab l a b) (pr2 tab l a b) = b := by
 unfold pr1 pr2
 by_cases c : l > 0
 ·rw [if_pos c, if_pos c, if_neg (by lia), if_neg (by lia)]
  exact ⟨h.iv_g ha hb, rfl⟩
 ·rw [if_neg c, if_neg c, if_pos (by lia), if_pos (by lia)]
  exact ⟨rfl, (h.iv_spec hb ha).2⟩
theorem b0U {tab : List (List Int)} (h : TabQ tab) {cs : List Int} {l : Int} (hl : LetOK cs.length l) (hc : InA tab.length cs) : dn1 tab (dn1 tab cs l) (-l) = cs := by
 obtain ⟨l1, l2⟩ := hl
 obtain ⟨p, a, b, q, rfl, e⟩ := cutC (cs := cs) (k := l.natAbs - 1) (by lia)
 obtain ⟨h1, h2, h3, h4⟩ := a8j.mp hc
 rw [a2I (by lia), a2I (by rw [Int.natAbs_neg]; lia)]
 obtain ⟨x, y⟩ := b6p h (l := l) (by lia) h2 h3
 rw [x, y]
theorem b0h {tab : List (List Int)} (h : TabQ tab) : ∀ {w cs : List Int}, WordOK cs.length w → InA tab.length cs → dn tab (a1C w) (dn tab w cs) = cs
 | [], _, _, hc => rfl
 | l :: w, cs, hw, hc => by
   have hl := hw l List.mem_cons_self
   have e : a1C (l :: w) = a1C w ++ [-l] := by unfold a1C; simp
   rw [e, a2j]
   show dn1 tab (dn tab (a1C w) (dn tab w (dn1 tab cs l))) (-l) = cs
   rw [b0h h (w := w) (cs := dn1 tab cs l) (by rw [a3x]; exact fun x hx => hw x (List.mem_cons_of_mem _ hx)) (b3x h hl hc)]
   exact b0U h hl hc
theorem b0T {tab : List (List Int)} (h : TabQ tab) {cs : List Int} {i : Int} (h1 : 1 ≤ i) (h2 : i + 1 < cs.length) (hc : InA tab.length cs) : dn tab [i, i + 1, i] cs = dn tab [i + 1, i, i + 1] cs := by
 obtain ⟨p, a, b, q, rfl, e⟩ := cutC (cs := cs) (k := i.natAbs - 1) (by lia)
 obtain ⟨k1, k2, k3, k4⟩ := a8j.mp hc
 cases q with
 | nil => simp only [List.length_append, List.length_cons, List.length_nil] at h2; lia
 | cons c q =>
   have k5 := k4 c List.mem_cons_self
   have s : ∀ x y z : Int, p ++ x :: y :: z :: q = (p ++ [x]) ++ y :: z :: q := fun x y z => by simp
   have u : ∀ x y z : Int, dn1 tab (p ++ x :: y :: z :: q) i = p ++ y :: g2 tab x y :: z :: q := fun x y z => by
    rw [a2I (by lia)]; unfold pr1 pr2; rw [if_pos (by lia), if_pos (by lia)]
   have v : ∀ x y z : Int, dn1 tab (p ++ x :: y :: z :: q) (i + 1) = p ++ x :: z :: g2 tab y z :: q := fun x y z => by
    rw [s, a2I (by simp; lia)]; unfold pr1 pr2; rw [if_pos (by lia), if_pos (by lia)]; simp
   show dn1 tab (dn1 tab (dn1 tab _ i) (i + 1)) i = dn1 tab (dn1 tab (dn1 tab _ (i + 1)) i) (i + 1)
   rw [u, v, u, v, u, v, h.third a b c k2 k3 k5]
theorem b5v {tab : List (List Int)} {cs : List Int} {a b : Int} (ha : LetOK cs.length a) (hb : LetOK cs.length b) (hd : a.natAbs + 1 < b.natAbs) : dn tab [a, b] cs = dn tab [b, a] cs := by
 obtain ⟨l1, l2⟩ := ha
 obtain ⟨l3, l4⟩ := hb
 obtain ⟨p, x, y, q, rfl, e⟩ := cutC (cs := cs) (k := a.natAbs - 1) (by lia)
 simp only [List.length_append, List.length_cons] at l4
 obtain ⟨p2, z, t, q2, rfl, e2⟩ := cutC (cs := q) (k := b.natAbs - a.natAbs - 2) (by lia)
 have s : ∀ x y z t : Int, p ++ x :: y :: (p2 ++ z :: t :: q2) = (p ++ x :: y :: p2) ++ z :: t :: q2 := fun x y z t => by simp
 show dn1 tab (dn1 tab _ a) b = dn1 tab (dn1 tab _ b) a
 have hs : ∀ x y : Int, (p ++ x :: y :: p2).length + 1 = b.natAbs := fun x y => by simp; lia
 rw [a2I (by lia), s, a2I (hs _ _), s, a2I (hs _ _), ← s, ← s, a2I (by lia)]
theorem b8J {tab : List (List Int)} (h : TabQ tab) {n : Int} {w v : List Int} (r : RelW n w v) : ∀ {cs : List Int}, (cs.length : Int) = n → InA tab.length cs → WordOK n w → dn tab w cs = dn tab v cs := by
 induction r with
 | refl => intro _ _ _ _; rfl
 | symm r ih => intro cs e hc hw; exact (ih e hc (r.ok.mpr hw)).symm
 | trans r1 _ ih1 ih2 => intro cs e hc hw; exact (ih1 e hc hw).trans (ih2 e hc (r1.ok.mp hw))
 | ctx a b ha hb _ ih =>
   intro cs e hc hw
   rw [a2j, a2j, a2j, a2j, ih (by rw [a3g]; exact e) (b1R h (by rw [e]; exact ha) hc) hw.appl.appr]
 | far ha hb hd =>
   intro cs e hc hw
   rw [← e] at ha hb
   rcases hd with hd | hd
   ·exact b5v ha hb hd
   ·exact (b5v hb ha hd).symm
 | @three p q hp hq s d =>
   intro cs e hc hw
   subst e
   have up : ∀ {i : Int}, 1 ≤ i → i + 1 < cs.length → dn tab [i, i + 1, i] cs = dn tab [i + 1, i, i + 1] cs := fun h1 h2 => b0T h h1 h2 hc
   have dw : ∀ {i : Int}, 1 ≤ i → i + 1 < cs.length → dn tab [-i, -(i + 1), -i] cs = dn tab [-(i + 1), -i, -(i + 1)] cs := fun {i} h1 h2 => by
    have w1 : LetOK cs.length i := ⟨by lia, by lia⟩
    have w2 : LetOK cs.length (i + 1) := ⟨by lia, by lia⟩
    have o1 : WordOK cs.length [-i, -(i + 1), -i] := .three w1.neg w2.neg w1.neg
    have hX := b1R h o1 hc
    have e1 : dn tab [i, i + 1, i] (dn tab [-i, -(i + 1), -i] cs) = cs := by
     have := b0h h o1 hc
     rwa [show a1C [-i, -(i + 1), -i] = [i, i + 1, i] by simp [a1C]] at this
    rw [b0T h h1 (by rw [a3g]; exact h2) hX] at e1
    have e2 := b0h h (w := [i + 1, i, i + 1]) (cs := dn tab [-i, -(i + 1), -i] cs) (by rw [a3g]; exact .three w2 w1 w2) hX
    rw [e1, show a1C [i + 1, i, i + 1] = [-(i + 1), -i, -(i + 1)] by simp [a1C]] at e2
    exact e2.symm
   obtain ⟨p1, p2⟩ := hp
   obtain ⟨q1, q2⟩ := hq
   rcases Int.lt_or_le 0 p with p0 | p0
   ·have q0 : 0 < q := by
     rcases Int.lt_or_le 0 q with z | z
     ·exact z
     ·exact absurd s (by have := Int.mul_nonpos_of_nonneg_of_nonpos (show 0 ≤ p by lia) z; lia)
    rcases (show q = p + 1 ∨ p = q + 1 by lia) with rfl | rfl
    ·exact up (by lia) (by lia)
    ·exact (up (by lia) (by lia)).symm
   ·have q0 : q < 0 := by
     rcases Int.lt_or_le q 0 with z | z
     ·exact z
     ·exact absurd s (by have := Int.mul_nonpos_of_nonpos_of_nonneg p0 z; lia)
    obtain ⟨i, rfl⟩ : ∃ i, p = -i := ⟨-p, by lia⟩
    obtain ⟨j, rfl⟩ : ∃ j, q = -j := ⟨-q, by lia⟩
    rcases (show j = i + 1 ∨ i = j + 1 by lia) with rfl | rfl
    ·exact dw (by lia) (by lia)
    ·exact (dw (by lia) (by lia)).symm
 | @out l hl =>
   intro cs e hc hw
   rw [← e] at hl
   exact b0U h hl hc
theorem a7L {n p q : Int} (hp : LetOK n p) (hq : LetOK n q) (s : p * q > 0) (d : (p - q).natAbs = 1) : RelW n [p, q, -p] [-q, p, q] := by
 have x1 := RelW.ctx (w := [-q, - -q]) (v := []) [] [p, q, -p] .nil (.three hp hq hp.neg) (RelW.out hq.neg)
 have x2 := RelW.ctx (w := [q, p, q]) (v := [p, q, p]) [-q] [-p] (.one hq.neg) (.one hp.neg) (RelW.three hp hq s d).symm
 have x3 := RelW.ctx (w := [p, -p]) (v := []) [-q, p, q] [] (.three hq.neg hp hq) .nil (RelW.out hp)
 rw [Int.neg_neg] at x1
 exact x1.symm.trans (x2.trans x3)
theorem a5n {a l : Int} (h : 0 < l) : sgnL a l = (a.natAbs : Int) := if_neg (by lia)
theorem a5o {a l : Int} (h : l < 0) : sgnL a l = -(a.natAbs : Int) := if_pos h
theorem a9I {n p q r : Int} (hp : LetOK n p) (hq : LetOK n q) (hr : LetOK n r) (h : a6P p q r) : RelW n [p, q, r] [sgnL q r, sgnL p q, sgnL q p] := by
 obtain ⟨h1, h2, h3⟩ := h
 have ne1 := hp.ne
 have ne2 := hq.ne
 have pos : ∀ {x y : Int}, 0 < x → 0 < y → x * y > 0 := fun a b => Int.mul_pos a b
 have neg : ∀ {x y : Int}, x < 0 → y < 0 → x * y > 0 := fun a b => Int.mul_pos_of_neg_of_neg a b
 rcases (show r = p ∨ r = -p by lia) with rfl | rfl
 ·have h3 := h3 rfl
  rcases Int.lt_or_le 0 r with z | z
  ·have z2 := h3.mp z
   rw [a5n z, a5n z2, show (q.natAbs : Int) = q by lia, show (r.natAbs : Int) = r by lia]
   exact .three hp hq (pos z z2) (by lia)
  ·have z2 : q < 0 := by
    rcases Int.lt_or_le 0 q with y | y
    ·exact absurd (h3.mpr y) (by lia)
    ·lia
   rw [a5o (show r < 0 by lia), a5o z2, show -(q.natAbs : Int) = q by lia, show -(r.natAbs : Int) = r by lia]
   exact .three hp hq (neg (by lia) z2) (by lia)
 ·rcases Int.lt_or_le 0 p with z | z
  ·rw [a5o (show -p < 0 by lia), a5n z]
   rcases Int.lt_or_le 0 q with y | y
   ·rw [a5n y, show (q.natAbs : Int) = q by lia, show (p.natAbs : Int) = p by lia]
    exact a7L hp hq (pos z y) (by lia)
   ·rw [a5o (show q < 0 by lia)]
    have := (a7L (p := q) (q := -p) hq hp.neg (neg (by lia) (by lia)) (by lia)).symm
    rw [Int.neg_neg] at this
    rw [show -(q.natAbs : Int) = q by lia, show -(p.natAbs : Int) = -p by lia, show (q.natAbs : Int) = -q by lia]
    exact this
  ·rw [a5n (show 0 < -p by lia), a5o (show p < 0 by lia)]
   rcases Int.lt_or_le 0 q with y | y
   ·rw [a5n y]
    have := (a7L (p := q) (q := -p) hq hp.neg (pos (by lia) (by lia)) (by lia)).symm
    rw [Int.neg_neg] at this
    rw [show (q.natAbs : Int) = q by lia, show (p.natAbs : Int) = -p by lia]
    exact this
   ·rw [a5o (show q < 0 by lia)]
    rw [show (q.natAbs : Int) = -q by lia, show (p.natAbs : Int) = -p by lia, Int.neg_neg, Int.neg_neg]
    exact a7L hp hq (neg (by lia) (by lia)) (by lia)
theorem a9J {n : Int} {A B w v : List Int} (hA : WordOK n A) (hB : WordOK n B) (h : RelW n w v) : RelW n (A ++ (w ++ B)) (A ++ (v ++ B)) := by
 have := RelW.ctx A B hA hB h
 rwa [List.append_assoc, List.append_assoc] at this
theorem b3Q {n : Int} {w r : List Int} {s : Stp} (hw : WordOK n w) (h : aft n w s = some r) : RelW n w r := by
 cases s with
 | far a =>
   replace h : (if a1D w a = true then some (a4D w a.toNat) else none) = some r := h
   split at h
   ·rename_i c
    obtain rfl := Option.some.inj h
    have c0 := c
    unfold a1D at c
    simp only [Bool.and_eq_true, decide_eq_true_eq] at c
    obtain ⟨A, p, q, B, rfl, hA⟩ := cut2 c.1.1 c.1.2
    have c2 := c.2
    rw [a4z c.1.1 hA, a4K c.1.1 hA] at c2
    rw [a4d hA]
    have hp := hw p (by simp)
    have hq := hw q (by simp)
    exact a9J (w := [p, q]) (v := [q, p]) hw.appl (fun x hx => hw x (by simp [hx])) (.far hp hq (by lia))
   ·cases h
 | three a =>
   replace h : (if a0J w a = true then some (a4u w a) else none) = some r := h
   split at h
   ·rename_i c
    obtain rfl := Option.some.inj h
    have hb : 0 ≤ a ∧ a < (w.length : Int) - 2 := by
     unfold a0J at c
     simp only [Bool.and_eq_true, decide_eq_true_eq] at c
     exact c.1
    obtain ⟨A, p, q, r, B, rfl, hA⟩ := cut3 hb.1 hb.2
    have hp := hw p (by simp)
    have hq := hw q (by simp)
    have hr := hw r (by simp)
    rw [a5g hb.1 hA hp.ne hq.ne] at c
    rw [a4B hb.1 hA]
    exact a9J (w := [p, q, r]) (v := [_, _, _]) hw.appl (fun x hx => hw x (by simp [hx])) (a9I hp hq hr c)
   ·cases h
 | out a =>
   replace h : (if a1L w a = true then some (outL w a) else none) = some r := h
   split at h
   ·rename_i c
    obtain rfl := Option.some.inj h
    unfold a1L at c
    simp only [Bool.and_eq_true, decide_eq_true_eq] at c
    obtain ⟨A, p, q, B, rfl, hA⟩ := cut2 c.1.1 c.1.2
    have c2 := c.2
    rw [a4z c.1.1 hA, a4K c.1.1 hA] at c2
    have e : outL (A ++ p :: q :: B) a = A ++ ([] ++ B) := by
     unfold outL
     rw [← hA, show (a + 2).toNat = A.length + 2 by lia, List.take_left]
     congr 1
     rw [← List.drop_drop, List.drop_left]; rfl
    rw [e]
    obtain rfl : q = -p := by lia
    exact a9J (w := [p, -p]) (v := []) hw.appl (fun x hx => hw x (by simp [hx])) (.out (hw p (by simp)))
   ·cases h
 | inn a l =>
   replace h : (if inB n w a l = true then some (inL w a l) else none) = some r := h
   split at h
   ·rename_i c
    obtain rfl := Option.some.inj h
    unfold inB at c
    simp only [Bool.and_eq_true, decide_eq_true_eq, a3f] at c
    have := (RelW.ctx (w := [l, -l]) (v := []) (w.take a.toNat) (w.drop a.toNat) (WordOK.take hw _) (WordOK.drop hw _) (RelW.out c.2)).symm
    rw [List.append_nil, List.take_append_drop] at this
    exact this
   ·cases h
theorem b1i {n : Int} : ∀ {L : List Stp} {w r : List Int}, WordOK n w → aftL n w L = some r → RelW n w r
 | [], w, r, hw, h => by obtain rfl := Option.some.inj h; exact .refl _
 | s :: L, w, r, hw, h => by
   rw [b3R] at h
   cases e : aft n w s with
   | none => rw [e] at h; cases h
   | some v => rw [e] at h; exact (b3Q hw e).trans (b1i (b5z hw e).1 h)
section
variable {X : Cx}
noncomputable def b7o (i j : Nat) (t : TA3) : TS3 := fun D ρ M => t ρ M fun vs M1 => match vs with
 | [v, w] => D.nx ((ρ.set i (some v)).set j (some w)) M1
 | _ => False
theorem b9b {i j : Nat} {x y : Str} {a b : Expr} {t : TA3} {px py pt pos : Pos} {kt k2 pt2} (hN : X.N.Nodup) (ha : HA X [a, b] t) (hc : X.calm = true := by rfl) (hi : X.N[i]? = some x := by rfl) (hj : X.N[j]? = some y := by rfl) (hij : i ≠ j := by decide)
  (hx : X.env.scope.names.lookup x = some .local := by rfl) (hy : X.env.scope.names.lookup y = some .local := by rfl)
  (hw : swappedStores [.Tuple [.Name x px, .Name y py] kt pt] (.Tuple [a, b] k2 pt2) X.env = pure (some [x, y]) := by rfl)
  (hs : swapsWithSole [.Tuple [.Name x px, .Name y py] kt pt] (.Tuple [a, b] k2 pt2) pos.line X.env = pure false := by rfl) :
  HS X (.Assign [.Tuple [.Name x px, .Name y py] kt pt] (.Tuple [a, b] k2 pt2) pos) (b7o i j t) := fun D ρ M h =>
 (b7T hc hN hi hj hij hx hy (ha.d (ρ := ρ)) hw hs).imp fun D2 σ H ⟨hr, hh, en⟩ => ⟨M, _, h, hr, hh, fun ts vs M1 H1 k1 h1 r1 q1 => by
  match ts, r1, q1 with
  | [v, w], r1, q1 =>
    unfold Reps at r1
    obtain ⟨u1, us, rfl, r2, r1⟩ := r1
    unfold Reps at r1
    obtain ⟨u2, us, rfl, r3, r1⟩ := r1
    unfold Reps at r1
    subst r1
    exact ⟨u1, u2, rfl, en.nx _ M1 _ H1 k1 (((hr.kp k1).set i r2).set j r3) h1 q1⟩⟩
end
theorem b4N {x y : Int} (hx : 0 ≤ x) (hy : 0 ≤ y) : Int.gcd y (x % y) = Int.gcd x y := by
 obtain ⟨a, rfl⟩ := Int.eq_ofNat_of_zero_le hx
 obtain ⟨b, rfl⟩ := Int.eq_ofNat_of_zero_le hy
 show Nat.gcd b (a % b) = Nat.gcd a b
 rw [Nat.gcd_comm a b, Nat.gcd_rec b a, Nat.gcd_comm]
theorem a3J : ∀ (l r : List Int), l.Nodup → (∀ x ∈ l, x ∈ r) → r.length ≤ l.length → l.Perm r
 | [], r, _, _, h => by
   rw [List.length_nil] at h
   rw [List.eq_nil_of_length_eq_zero (by lia : r.length = 0)]
 | x :: l, r, nd, hs, h => by
   have hx := hs x List.mem_cons_self
   have nd' := List.nodup_cons.mp nd
   refine (List.Perm.cons x (a3J l (r.erase x) nd'.2 (fun y hy => ?_) ?_)).trans (List.perm_cons_erase hx).symm
   ·exact (List.mem_erase_of_ne (fun z => nd'.1 (by rw [← z]; exact hy))).mpr (hs y (List.mem_cons_of_mem _ hy))
   ·rw [List.length_erase_of_mem hx]
    rw [List.length_cons] at h
    lia
theorem TabOK.b {tab : List (List Int)} (h : TabOK tab) : tabB tab = true := by
 unfold tabB
 rw [a9F.mpr ⟨h.l1, h.l7, h.rows⟩, List.all_eq_true.mpr (fun c hc => ?_), List.all_eq_true.mpr (fun c hc => ?_)]
 ·rfl
 ·refine List.all_eq_true.mpr fun a ha => List.all_eq_true.mpr fun b hb => decide_eq_true ?_
  exact h.third a b c (a0h.mp ha) (a0h.mp hb) (a0h.mp hc)
 ·unfold coB
  rw [decide_eq_true (h.idem c (a0h.mp hc)), decide_eq_true (h.col c (a0h.mp hc))]; rfl
noncomputable def fnT (m : Int) (F : Int → Int → Int) : List (List Int) := (a0l m).map fun a => (a0l m).map fun b => F a b
theorem a4L {m : Int} {F : Int → Int → Int} : (fnT m F).length = m.toNat := by unfold fnT; rw [List.length_map, a0p]
theorem b5s {m : Int} {f : Int → Int} {a : Int} (h : InM m a) : gI ((a0l m).map f) a = f a := by
 unfold gI
 have e : (a0l m)[a.toNat]? = some a := by
  unfold a0l
  rw [List.getElem?_map, List.getElem?_range (by have := h.1; have := h.2; lia)]
  exact congrArg some (Int.toNat_of_nonneg h.1)
 rw [List.getD_eq_getElem?_getD, List.getElem?_map, e]
 rfl
theorem a7q {m : Int} {F : Int → Int → Int} {a b : Int} (ha : InM m a) (hb : InM m b) : g2 (fnT m F) a b = F a b := by
 unfold g2 fnT
 have e : (a0l m)[a.toNat]? = some a := by
  unfold a0l
  rw [List.getElem?_map, List.getElem?_range (by have := ha.1; have := ha.2; lia)]
  exact congrArg some (Int.toNat_of_nonneg ha.1)
 rw [List.getD_eq_getElem?_getD, List.getElem?_map, e]
 exact b5s hb
theorem b8G {m : Int} {F : Int → Int → Int} (h1 : 1 ≤ m) (h7 : m ≤ 7) (hin : ∀ a b, InM m a → InM m b → InM m (F a b)) (hid : ∀ a, InM m a → F a a = a)
  (hinj : ∀ a b c, InM m a → InM m b → InM m c → F a c = F b c → a = b) (hth : ∀ a b c, InM m a → InM m b → InM m c → F (F a b) c = F (F a c) (F b c)) : tabB (fnT m F) = true := by
 have el : ((fnT m F).length : Int) = m := by rw [a4L]; lia
 refine TabOK.b ⟨⟨by rw [a4L]; lia, fun r hr => ?_, fun c hc => ?_, fun c hc => ?_, fun a b c ha hb hc => ?_⟩, by rw [a4L]; lia⟩
 ·unfold fnT at hr
  obtain ⟨a, _, rfl⟩ := List.mem_map.mp hr
  rw [a4L, List.length_map, a0p]
 ·rw [el] at hc
  rw [a7q hc hc]; exact hid c hc
 ·rw [el] at hc ⊢
  have e : ((fnT m F).map fun r => gI r c) = (a0l m).map fun a => F a c := by
   unfold fnT
   rw [List.map_map]
   exact List.map_congr_left fun a _ => b5s hc
  rw [e]
  refine a3J _ _ ?_ (fun x hx => ?_) (by rw [List.length_map]; exact Nat.le_refl _)
  ·refine List.pairwise_map.mpr ((a3S m).imp_of_mem ?_)
   intro a b ha hb ne e
   exact ne (hinj a b c (a0h.mp ha) (a0h.mp hb) hc e)
  ·obtain ⟨a, ha, rfl⟩ := List.mem_map.mp hx
   exact a0h.mpr (hin a c (a0h.mp ha) hc)
 ·rw [el] at ha hb hc
  rw [a7q ha hb, a7q (hin a b ha hb) hc, a7q ha hc, a7q hb hc, a7q (hin a c ha hc) (hin b c hb hc)]
  exact hth a b c ha hb hc
noncomputable def nmF (us : List Int) (tab : List (List Int)) (a b : Int) : Int := gI us (g2 tab (us.idxOf a) (us.idxOf b))
theorem a3n {us : List Int} {m : Int} (hp : us.Perm (a0l m)) {a : Int} (ha : InM m a) : InM m (us.idxOf a) ∧ gI us (us.idxOf a) = a := by
 have hm : a ∈ us := hp.mem_iff.mpr (a0h.mpr ha)
 have hl := List.idxOf_lt_length_of_mem hm
 have e : us.length = m.toNat := by rw [hp.length_eq, a0p]
 refine ⟨⟨by lia, by lia⟩, ?_⟩
 unfold gI
 rw [Int.toNat_natCast, List.getD_eq_getElem?_getD, List.getElem?_eq_getElem hl]
 exact List.getElem_idxOf hl
theorem b1N {us : List Int} {m : Int} (hp : us.Perm (a0l m)) {a : Int} (ha : InM m a) : InM m (gI us a) ∧ ((us.idxOf (gI us a) : Nat) : Int) = a := by
 have e : us.length = m.toNat := by rw [hp.length_eq, a0p]
 have hl : a.toNat < us.length := by have := ha.1; have := ha.2; lia
 have hg : gI us a = us[a.toNat] := by
  unfold gI
  rw [List.getD_eq_getElem?_getD, List.getElem?_eq_getElem hl]; rfl
 have nd : us.Nodup := hp.nodup_iff.mpr (a3S m)
 rw [hg]
 refine ⟨a0h.mp (hp.mem_iff.mp (List.getElem_mem hl)), ?_⟩
 have hi := List.idxOf_lt_length_of_mem (List.getElem_mem hl)
 have h2 : us[us.idxOf us[a.toNat]] = us[a.toNat] := List.getElem_idxOf hi
 have q : us.idxOf us[a.toNat] = a.toNat := by
  have pw := List.pairwise_iff_getElem.mp nd
  rcases Nat.lt_trichotomy (us.idxOf us[a.toNat]) a.toNat with z | z | z
  ·exact absurd h2 (pw _ _ hi hl z)
  ·exact z
  ·exact absurd h2.symm (pw _ _ hl hi z)
 rw [q]
 exact Int.toNat_of_nonneg ha.1
theorem b4x {tab : List (List Int)} {us : List Int} (h : TabOK tab) (hp : us.Perm (a0l tab.length)) : tabB (fnT tab.length (nmF us tab)) = true := by
 have := h.l1
 have := h.l7
 have hin : ∀ a b, InM tab.length a → InM tab.length b → InM tab.length (g2 tab (us.idxOf a) (us.idxOf b)) := fun a b ha hb => h.rng (a3n hp ha).1 (a3n hp hb).1
 refine b8G (by lia) (by lia) (fun a b ha hb => (b1N hp (hin a b ha hb)).1) (fun a ha => ?_) (fun a b c ha hb hc e => ?_) (fun a b c ha hb hc => ?_)
 ·unfold nmF
  rw [h.idem _ (a3n hp ha).1]
  exact (a3n hp ha).2
 ·unfold nmF at e
  have e2 := congrArg (fun x => ((us.idxOf x : Nat) : Int)) e
  rw [(b1N hp (hin a c ha hc)).2, (b1N hp (hin b c hb hc)).2] at e2
  have e3 := h.inj (a3n hp ha).1 (a3n hp hb).1 (a3n hp hc).1 e2
  rw [← (a3n hp ha).2, ← (a3n hp hb).2, e3]
 ·unfold nmF
  rw [(b1N hp (hin a b ha hb)).2, (b1N hp (hin a c ha hc)).2, (b1N hp (hin b c hb hc)).2, h.third _ _ _ (a3n hp ha).1 (a3n hp hb).1 (a3n hp hc).1]
theorem a4Z : ∀ {l : List Int} {k : Nat} (h : k < l.length), l.Perm (l[k] :: l.eraseIdx k)
 | a :: l, 0, _ => .refl _
 | a :: l, k + 1, h => by
   have := a4Z (l := l) (k := k) (by simpa using h)
   rw [List.getElem_cons_succ, List.eraseIdx_cons_succ]
   exact (List.Perm.cons a this).trans (.swap _ _ _)
theorem a5C {α β : Type} (f : α → β) : ∀ (l : List α) (k : Nat), (l.map f).eraseIdx k = (l.eraseIdx k).map f
 | [], _ => rfl
 | a :: l, 0 => rfl
 | a :: l, k + 1 => by rw [List.map_cons, List.eraseIdx_cons_succ, List.eraseIdx_cons_succ, List.map_cons, a5C f l k]
theorem b5B {M : MH} {p q : Addr} {a b c d : MO} (h : p ≠ q) : updM (updM (updM (updM M p a) q b) p c) q d = updM (updM M p c) q d := by
 funext x
 by_cases e : x = q
 ·subst e; rw [a0d, a0d]
 ·rw [a0k e, a0k e]
  by_cases e2 : x = p
  ·subst e2; rw [a0d, a0d]
  ·rw [a0k e2, a0k e, a0k e2, a0k e2]
noncomputable def affF (m t a b : Int) : Int := (t * a + (1 - t) * b) % m
theorem b7c : ((a0l 8).all fun m => (a0l 8).all fun t => !(decide (1 ≤ m) && decide (1 ≤ t) && decide (t ≤ m) && decide (Int.gcd t m = 1)) || tabB (fnT m (affF m t))) = true := by decide +kernel
theorem b8Q {m t : Int} (h1 : 1 ≤ m) (h7 : m ≤ 7) (t1 : 1 ≤ t) (tm : t ≤ m) (hg : Int.gcd t m = 1) : tabB (fnT m (affF m t)) = true := by
 have := List.all_eq_true.mp (List.all_eq_true.mp b7c m (a0h.mpr ⟨by lia, by lia⟩)) t (a0h.mpr ⟨by lia, by lia⟩)
 rw [decide_eq_true h1, decide_eq_true t1, decide_eq_true tm, decide_eq_true hg] at this
 exact this
noncomputable def a5m : List (List (List Int)) := [[[0, 3, 1, 2], [2, 1, 3, 0], [3, 0, 2, 1], [1, 2, 0, 3]], [[0, 0, 1], [1, 1, 0], [2, 2, 2]], [[0]]]
theorem b4b : ∀ t ∈ a5m, tabB t = true := List.all_eq_true.mp (by decide +kernel : (a5m.all tabB) = true)
noncomputable def ttT (tab : List (List Int)) : T := .tup (tab.map tupT)
noncomputable def a4H (m : Int) (row : List Int) : List (List Int) := (a0l m).map fun c => row ++ [c]
noncomputable def alR (m : Int) : Nat → List (List Int)
 | 0 => [[]]
 | k + 1 => (alR m k).flatMap (a4H m)
theorem a8R (m : Int) (row : List Int) : (a4H m row).length = m.toNat := by unfold a4H; rw [List.length_map, a0p]
theorem b0e (m : Int) : ∀ R : List (List Int), (R.flatMap (a4H m)).length = R.length * m.toNat
 | [] => by simp
 | r :: R => by rw [List.flatMap_cons, List.length_append, a8R, b0e m R, List.length_cons, Nat.succ_mul, Nat.add_comm]
theorem a8u (m : Int) : ∀ k, (alR m k).length = m.toNat ^ k
 | 0 => rfl
 | k + 1 => by show ((alR m k).flatMap (a4H m)).length = _; rw [b0e, a8u m k, Nat.pow_succ]
theorem a6M {m : Int} : ∀ {k : Nat} {r : List Int}, r ∈ alR m k → r.length = k ∧ InA m r
 | 0, r, h => by
   rw [List.mem_singleton.mp h]
   exact ⟨rfl, fun _ z => absurd z List.not_mem_nil⟩
 | k + 1, r, h => by
   obtain ⟨q, hq, hr⟩ := List.mem_flatMap.mp h
   obtain ⟨c, hc, rfl⟩ := List.mem_map.mp hr
   obtain ⟨a, b⟩ := a6M hq
   refine ⟨by rw [List.length_append, a]; rfl, fun x hx => ?_⟩
   rcases List.mem_append.mp hx with z | z
   ·exact b x z
   ·rw [List.mem_singleton.mp z]; exact a0h.mp hc
theorem b4P {m : Int} {R : List (List Int)} {j : Nat} {r : List Int} (h : R[j]? = some r) : (R.take (j + 1)).flatMap (a4H m) = (R.take j).flatMap (a4H m) ++ a4H m r := by
 rw [List.take_add_one, h, List.flatMap_append]
 simp
section
variable {prog : Program} {w : World} {A : Around} {E : Value → Shared → Prop} {s : Shared}
end
section
variable {X : Cx} {pos : Pos}
end
theorem a9e {α : Type} (f : α → Bool) {L : List α} {i : Nat} {x : α} (h : L[i]? = some x) : (L.take (i + 1)).filter f = (L.take i).filter f ++ if f x = true then [x] else [] := by
 rw [List.take_add_one, h, List.filter_append]
 congr 1
 show List.filter f [x] = _
 rw [List.filter_cons]
 rfl
section
variable {X : Cx} {Ha : Hp} {a b : Expr} {ta tb : TE3} {tA : TT3} {pos : Pos}
end
section
variable {X : Cx} {Ha : Hp}
end
section
variable {X : Cx} {pos : Pos}
noncomputable def b9i (K : PySem.W.Frag) : V → V → Hp → VK → Prop := fun x y H Q => ∃ p xs i v, x = .ref p ∧ y = .int i ∧ SqL K H p xs ∧ 0 ≤ i ∧ xs[i.toNat]? = some v ∧ Q v H
theorem b3m : PGet X (b9i X.K) := by
 intro pins s σ H o i ov iv Q I ro ri h
 obtain ⟨p, xs, k, z, rfl, rfl, hq, h0, he, q⟩ := h
 cases ro
 obtain ⟨t, rfl⟩ := ri
 obtain ⟨its, r, pl, hz⟩ := I.list hq
 obtain ⟨w, ew, rw'⟩ := r.get he
 have hl := r.length
 have hn := a5D
 have hk : k.toNat < xs.length := (List.getElem?_eq_some_iff.mp he).1
 exact wpAny_getItem_list pl.isList h0 (by lia) (by simpa using ew) ⟨z, H, I, rw', q⟩
noncomputable def b7F (to ti te : TE3) (f : Int → Int → Int) : TS3 := fun D ρ M => to ρ M fun o M1 => ti ρ M1 fun k M2 => match o, k with
 | .adr p, .int k => (match M2 p with
   | some (.lst ts) => ∃ x : Int, 0 ≤ k ∧ ts[k.toNat]? = some (.int x) ∧ te ρ M2 fun y M3 => match y with
     | .int z => M3 p = some (.lst ts) ∧ D.nx ρ (updM M3 p (.lst (ts.set k.toNat (.int (f x z)))))
     | _ => False
   | _ => False)
 | _, _ => False
theorem b4e {o i e : Expr} {to ti te : TE3} {op : Operator} {f : Int → Int → Int} {tpos : Pos} (hp : PIp X op (ipI f)) (ho : HE X o to) (hi : HE X i ti) (he : HE X e te)
  (ha : ∀ ov iv new, augStore i ov iv new = (do holding [new, ov, iv] (setItem ov iv new); release [new, ov, iv] []; pure .next) := by intros; rfl) : HS X (.AugAssign (.Subscript o i tpos) op e pos) (b7F to ti te f) := fun D ρ M h =>
 (b6o (ho.d (ρ := ρ)) (hi.d (ρ := ρ)) b3m (he.d (ρ := ρ)) hp b0z ha).imp fun D2 σ H ⟨hr, hh, en⟩ => ⟨M, _, h, hr, hh, fun x v M1 H1 k1 h1 r1 q1 => ⟨M1, _, q1, hr.kp k1, h1, fun y w M2 H2 k2 h2 r2 q2 => by
  dsimp only at q2
  split at q2
  ·rename_i p k
   obtain rfl := a0I r1
   obtain rfl := a0z r2
   split at q2
   ·rename_i ts e
    obtain ⟨x, k0, hx, q2⟩ := q2
    obtain ⟨xs, g1, g2⟩ := h2 _ _ e
    obtain ⟨v, ev, rv⟩ := g2.get hx
    obtain rfl := a0z rv
    refine ⟨p, xs, k, _, rfl, rfl, SqL.of g1, k0, ev, M2, _, q2, hr.kp (k1.trans k2), h2, fun y w M3 H3 k3 h3 r3 q3 => ?_⟩
    dsimp only at q3
    split at q3
    ·rename_i z
     obtain rfl := a0z r3
     obtain ⟨e3, q3⟩ := q3
     obtain ⟨ys, g3, g4⟩ := h3 _ _ e3
     have hk : k.toNat < ts.length := (List.getElem?_eq_some_iff.mp hx).1
     have kk := (k1.trans k2).trans k3
     refine ⟨x, z, rfl, rfl, p, ys, k, k.toNat, rfl, rfl, g3, a4I k0 (by rw [g4.length]; lia), ?_⟩
     exact en.nx _ _ σ _ (kk.trans (Kp.lst g3)) (hr.kp (kk.trans (Kp.lst g3))) (h3.setL g3 (g4.set (t := .int (f x z)) a0U k.toNat)) q3
    ·exact q3.elim
   ·exact q2.elim
  ·exact q2.elim⟩⟩
end
theorem Inv.turnFp {X : Cx} {pins : List (Addr × Obj)} {σ : St} {H : Hp} {s : Shared} {h' : Heap} {t' : Nat} {T : Addr} {xs : List V} {fp : List Addr} (I : Inv X pins σ H s) (fe : ∀ b ∈ fp, FpOk X pins H b)
  (k : ∀ b o, b ∉ fp → s.heap.get? b = some o → h'.get? b = some o) (hT : s.heap.objs.size ≤ T) (new : a2J X.prog X.w (upd H T (.tup xs)) h' T (.tup xs)) :
  Inv X pins σ (upd H T (.tup xs)) { s with heap := h', toks := t' } := by
 have hn : H T = none := I.hok.fresh hT
 have ne : ∀ b u, H b = some u → b ∉ fp := fun b u q z => by rw [(fe b z).1] at q; cases q
 refine I.step (g' := s.gens) (d' := s.drawn) (ch := fp) (fun b hb => ?_) (fun b o _ _ hc q _ => k b o hc q) (fun b o _ _ hc q _ => ⟨o.slots, k b o hc q⟩)
  (fun b o _ q n => by rw [a0y (Nat.ne_of_lt (Nat.lt_of_lt_of_le (Heap.lt_size q) hT))]; exact n)
  (fun b o hc q => ⟨o, k b o hc q⟩) (fun b xs q => by rw [a0y (a0r q hn)]; exact q) (fun b o u q => by rw [a0y (a0r q hn)]; exact q) (fun b ps q => ⟨#[], by rw [a0y (a0r q hn), q]; simp⟩) (fun m hm => ?_) (fun b u q => ?_) I.bare
 ·have fe := fe b hb
  exact ⟨fe.2.2.2.1, fe.2.1, fe.2.2.2.2.1, fe.2.2.2.2.2⟩
 ·obtain ⟨o, es, ep, ho, r⟩ := hm
  exact ⟨o, es, ep, k _ o (fun z => (fe _ z).2.1 rfl) ho, r⟩
 ·by_cases hb : b = T
  ·subst hb; rw [a0O] at q; cases q; exact new
  ·rw [a0y hb] at q
   refine (I.hok b u q).stay (fun c v hc z => ?_) (fun c z => by rw [a0y (a0r z hn)]; exact z) fun c xs z => by rw [a0y (a0r z hn)]; exact z
   rcases hc with y | y
   ·rw [y] at z ⊢; exact k b v (ne b u q) z
   ·exact k c v (ne c _ y) z
theorem Inv.turnedFp {X : Cx} {pins : List (Addr × Obj)} {σ : St} {H : Hp} {s : Shared} {h' : Heap} {t' : Nat} {fp : List Addr} (I : Inv X pins σ H s) (fe : ∀ b ∈ fp, FpOk X pins H b) (k : ∀ b o, b ∉ fp → s.heap.get? b = some o → h'.get? b = some o) : Inv X pins σ H { s with heap := h', toks := t' } := by
 have nit : ∀ b u, H b = some u → b ∉ fp := fun b u e z => by rw [(fe b z).1] at e; cases e
 refine I.step (g' := s.gens) (d' := s.drawn) (ch := fp) (fun b hb => ?_) (fun b o _ _ hc e _ => k b o hc e) (fun b o _ _ hc e _ => ⟨o.slots, k b o hc e⟩) (fun _ _ _ _ n => n)
  (fun b o hc e => ⟨o, k b o hc e⟩) (fun _ _ e => e) (fun _ _ _ e => e) (fun b ps e => ⟨#[], by rw [e]; simp⟩) (fun m hm => ?_) (fun b u e => ?_) I.bare
 ·have fe := fe b hb
  exact ⟨fe.2.2.2.1, fe.2.1, fe.2.2.2.2.1, fe.2.2.2.2.2⟩
 ·obtain ⟨o, es, ep, ho, r⟩ := hm
  exact ⟨o, es, ep, k _ o (fun z => (fe _ z).2.1 rfl) ho, r⟩
 ·refine (I.hok b u e).stay (fun c v hc q => k c v ?_ q) (fun _ q => q) fun _ _ q => q
  rcases hc with z | z
  ·rw [z]; exact nit b u e
  ·exact nit c _ z
noncomputable def Izip (K : PySem.W.Frag) (a b : Addr) (n : Nat) : It :=
 ⟨fun i H => i < n ∧ ∃ xs ys, SqL K H a xs ∧ SqL K H b ys ∧ xs.length = n ∧ ys.length = n, fun i H v H' => ∃ T x y, v = .ref T ∧ H T = none ∧ H' = upd H T (.tup [x, y]) ∧ (∀ xs, SqL K H a xs → xs[i]? = some x) ∧ (∀ ys, SqL K H b ys → ys[i]? = some y),
  fun i H => i = n ∧ ∃ xs ys, SqL K H a xs ∧ SqL K H b ys ∧ xs.length = n ∧ ys.length = n⟩
noncomputable def b9M (a b z TI TO i1 i2 : Addr) (i : Nat) (h : Heap) : Prop := ∃ u v, IsZip h z TI TO .none ∧ IsPair h TI (.ref i1) (.ref i2) ∧ IsPair h TO u v ∧ h.IsListIter i1 a i ∧ h.IsListIter i2 b i
theorem b3W {P : Program} {w : World} {K : PySem.W.Frag} {es : List Expr} {x1} {tp : Pos} (a b z TI TO i1 i2 : Addr) (n : Nat) (D : ZipApart z TI TO i1 i2 a b) : Turn P w K (.Tuple es x1 tp) (Izip K a b n) [z, TI, TO, i1, i2] z (b9M a b z TI TO i1 i2) where
 mem := by simp
 obj := fun i h st c hc => by
  obtain ⟨u, v, e1, e2, e3, e4, e5⟩ := st
  have q : c = z ∨ c = TI ∨ c = TO ∨ c = i1 ∨ c = i2 := by simpa using hc
  rcases q with rfl | rfl | rfl | rfl | rfl
  ·exact ⟨_, e1, fun v z => by cases z⟩
  ·exact ⟨_, e2, fun v z => by cases z⟩
  ·exact ⟨_, e3, fun v z => by cases z⟩
  ·obtain ⟨o, q, c, d⟩ := e4
   exact ⟨o, q, fun v z => by rw [d] at z; cases z⟩
  ·obtain ⟨o, q, c, d⟩ := e5
   exact ⟨o, q, fun v z => by rw [d] at z; cases z⟩
 keep := fun i h h' st k => by
  obtain ⟨u, v, e1, e2, e3, e4, e5⟩ := st
  exact ⟨u, v, k _ (by simp) _ e1, k _ (by simp) _ e2, k _ (by simp) _ e3, e4.at fun o q => k _ (by simp) o q, e5.at fun o q => k _ (by simp) o q⟩
 item := by
  intro X hP hw hK hc i pins s σ H E I hf st hg
  subst hP hw hK
  obtain ⟨u, v, e1, e2, e3, e4, e5⟩ := st
  obtain ⟨hi, xs, ys, hq, hq2, hxn, hyn⟩ := hg
  obtain ⟨its, rv, p, hz⟩ := I.list hq
  obtain ⟨its2, rv2, p2, hz2⟩ := I.list hq2
  obtain ⟨x, hx⟩ : ∃ x, xs[i]? = some x := ⟨_, List.getElem?_eq_getElem (by lia)⟩
  obtain ⟨y, hy⟩ : ∃ y, ys[i]? = some y := ⟨_, List.getElem?_eq_getElem (by lia)⟩
  obtain ⟨u1, hu1, ru1⟩ := rv.get hx
  obtain ⟨u2, hu2, ru2⟩ := rv2.get hy
  refine wpAny_pyNext_zip_item D e1 e2 e3 e4 e5 p.isList p2.isList (x := u1) (y := u2) (by simpa using hu1) (by simpa using hu2) fun h1 a1 a2 a3 a4 a5 a6 a7 => ?_
  refine ⟨_, rfl, wpAny_letOwnedTupleGo_zip a1 fun h2 b1 hs2 => ?_⟩
  have k2 : ∀ b o, b ∉ [z, TI, TO, i1, i2] → s.heap.get? b = some o → h2.get? b = some o := fun c o hc q => by
   simp only [List.mem_cons, List.not_mem_nil, or_false, not_or] at hc
   exact (hs2.2 c hc.1).trans (a7 c o hc.1 hc.2.2.1 hc.2.2.2.1 hc.2.2.2.2 q)
  have nz : s.heap.objs.size ≠ z := Nat.ne_of_gt (Heap.lt_size e1)
  have hT2 : h2.get? s.heap.objs.size = some { cls := .type "tuple", data := .seq #[u1, u2] } := (hs2.2 _ nz).trans a5
  have hn : H s.heap.objs.size = none := I.hok.fresh (Nat.le_refl _)
  have I2 : Inv X pins σ (upd H s.heap.objs.size (.tup [x, y])) { s with heap := h2, toks := s.toks } := I.turnFp hf k2 (Nat.le_refl _)
   ⟨by simp only [List.length_cons, List.length_nil]; rw [sizeLine_eq]; decide, [u1, u2], .cons ru1 (.cons ru2 .nil), _, hT2, rfl, rfl, _, rfl⟩
  have up : ∀ {c : Addr} {o : Obj}, c ≠ z → h1.get? c = some o → h2.get? c = some o := fun hc q => (hs2.2 _ hc).trans q
  have hTI : h1.get? TI = some { cls := .type "tuple", data := .seq #[.ref i1, .ref i2] } := a7 TI _ D.TIz D.TITO D.TIi1 D.TIi2 e2
  refine ⟨.ref s.heap.objs.size, _, I2, rfl, ⟨_, x, y, rfl, hn, rfl, fun ws hw => by rw [I.list_inj hw hq]; exact hx, fun ws hw => by rw [I.list_inj hw hq2]; exact hy⟩, ⟨u1, u2, b1, up D.TIz hTI, up D.TOz a2, a3.at fun o q => up D.i1z q, a4.at fun o q => up D.i2z q⟩, fun c hc => ?_⟩
  have hc' : c < s.heap.objs.size := by
   have q : c = z ∨ c = TI ∨ c = TO ∨ c = i1 ∨ c = i2 := by simpa using hc
   rcases q with rfl | rfl | rfl | rfl | rfl
   ·exact Heap.lt_size e1
   ·exact Heap.lt_size e2
   ·exact Heap.lt_size e3
   ·obtain ⟨o, q, _⟩ := e4; exact Heap.lt_size q
   ·obtain ⟨o, q, _⟩ := e5; exact Heap.lt_size q
  rw [a0y (Nat.ne_of_lt hc')]
  exact (hf c hc).1
 done := by
  intro X hP hw hK hc i pins s σ H E I hf st hg
  subst hP hw hK
  obtain ⟨u, v, e1, e2, e3, e4, e5⟩ := st
  obtain ⟨hi, xs, ys, hq, hq2, hxn, hyn⟩ := hg
  obtain ⟨its, rv, p, hz⟩ := I.list hq
  obtain ⟨its2, rv2, p2, hz2⟩ := I.list hq2
  have hl := rv.length
  refine wpAny_pyNext_zip_end (I.ok.hd hc) D e1 e2 e3 e4 e5 p.isList p2.isList (.inl (Array.getElem?_eq_none (by simp; lia))) fun h' eb => ⟨rfl, I.turnedFp (t' := s.toks) hf fun c o hc q => ?_⟩
  simp only [List.mem_cons, List.not_mem_nil, or_false, not_or] at hc
  exact eb c o hc.1 hc.2.2.1 hc.2.2.2.1 hc.2.2.2.2 q
 self := fun A i s Q E st h => by
  obtain ⟨u, v, e1, _⟩ := st
  exact wpAny_pyIter_zip e1 h
noncomputable def zpT (ts us : List T) : List T := List.zipWith (fun a b => .tup [a, b]) ts us
theorem a5S {ts us : List T} (h : ts.length = us.length) : (zpT ts us).length = ts.length := by unfold zpT; rw [List.length_zipWith, h, Nat.min_self]
theorem a9x {ts us : List T} {i : Nat} {x : T} (h : (zpT ts us)[i]? = some x) : ∃ a b, ts[i]? = some a ∧ us[i]? = some b ∧ x = .tup [a, b] := by
 unfold zpT at h
 rw [List.getElem?_zipWith] at h
 cases e1 : ts[i]? with
 | none => rw [e1] at h; cases us[i]? <;> cases h
 | some a =>
   cases e2 : us[i]? with
   | none => rw [e1, e2] at h; cases h
   | some b => rw [e1, e2] at h; exact ⟨a, b, rfl, rfl, (Option.some.inj h).symm⟩
theorem b4H {K : PySem.W.Frag} {H : Hp} {a b : Addr} {ts us : List T} (hl : ts.length = us.length) : ItOk K H (Izip K a b ts.length) ⟨zpT ts us, fun M' => M' a = some (.lst ts) ∧ M' b = some (.lst us)⟩ := by
 refine ⟨fun H' M' k hh st => ?_, fun i x H' M' e k hh st => ?_⟩
 ·obtain ⟨xs, g1, g2⟩ := hh _ _ st.1
  obtain ⟨ys, g3, g4⟩ := hh _ _ st.2
  exact ⟨a5S hl, xs, ys, SqL.of g1, SqL.of g3, g2.length, by rw [g4.length, hl]⟩
 ·obtain ⟨t, u, ht, hu, rfl⟩ := a9x e
  obtain ⟨xs, g1, g2⟩ := hh _ _ st.1
  obtain ⟨ys, g3, g4⟩ := hh _ _ st.2
  obtain ⟨v, e1, r1⟩ := g2.get ht
  obtain ⟨w, e2, r2⟩ := g4.get hu
  refine ⟨⟨(List.getElem?_eq_some_iff.mp ht).1, xs, ys, SqL.of g1, SqL.of g3, g2.length, by rw [g4.length, hl]⟩, fun v' H'' y => ?_⟩
  obtain ⟨p, x, y, rfl, hn, rfl, hx, hy⟩ := y
  have q1 := hx xs (SqL.of g1)
  have q2 := hy ys (SqL.of g3)
  rw [e1] at q1
  rw [e2] at q2
  cases q1
  cases q2
  exact ⟨Kp.new hn, hh.keep hn, a2F (SqT.of a0O) (.cons (Rep.kp (Kp.new hn) _ _ r1) (.cons (Rep.kp (Kp.new hn) _ _ r2) .nil))⟩
section
variable {X : Cx}
noncomputable def b8C (t : TA3) : TI3 := fun ρ M R => t ρ M fun xs M1 => match xs with
 | [.adr p, .adr q] => (match M1 p, M1 q with | some (.lst ts), some (.lst us) => ts.length = us.length ∧ R ⟨zpT ts us, fun M' => M' p = some (.lst ts) ∧ M' q = some (.lst us)⟩ M1 | _, _ => False)
 | _ => False
theorem b8B {es : List Expr} {x1} {tp pos : Pos} {a b : Expr} {t : TA3} {p : Pos} (hm : X.mg "zip" = none) (ha : HA X [a, b] t) (hg : Gl X "zip" := by rfl) (hs : starEach [a, b] X.env = [(false, eval a X.env), (false, eval b X.env)] := by rfl) (hs2 : starEach [b] X.env = [(false, eval b X.env)] := by rfl) : HI X (.Tuple es x1 tp) (.Call (.Name "zip" p) [a, b] [] pos) (b8C t) := by
 intro ρ M R h pins s σ H R2 I b
 obtain ⟨hr, hh, en⟩ := b
 refine Call_ (a5F I hg hm PyProof.Rows.boot_zip (PyProof.Rows.callWith_type1 (thn ((ha.d (ρ := ρ)) pos pins s σ H (fun vs H1 => ∃ ts M1, Kp X.K H H1 ∧ HR X.K H1 M1 ∧ Reps X.K H1 vs ts ∧ (match ts with
  | [.adr p, .adr q] => (match M1 p, M1 q with | some (.lst ts), some (.lst us) => ts.length = us.length ∧ R ⟨zpT ts us, fun M' => M' p = some (.lst ts) ∧ M' q = some (.lst us)⟩ M1 | _, _ => False)
  | _ => False)) I ⟨M, _, h, hr, hh, fun ts vs M1 H1 k1 h1 r1 q1 => ⟨ts, M1, k1, h1, r1, q1⟩⟩) fun us s1 ⟨vs, H1, I1, r1, ts, M1, k1, h1, rt, q1⟩ => ?_) (by rw [hs, hs2]) (by rw [hs2]; rfl)))
 split at q1
 ·rename_i p q
  obtain ⟨v, w, rfl, rv, rw'⟩ := b5S rt
  obtain rfl := a0I rv
  obtain rfl := a0I rw'
  split at q1
  ·rename_i ts us e1 e2
   obtain ⟨hl, q1⟩ := q1
   obtain ⟨xs, g1, g2⟩ := h1 _ _ e1
   obtain ⟨ys, g3, g4⟩ := h1 _ _ e2
   cases r1 with
   | cons ra rr =>
     cases rr with
     | cons rb rr =>
       cases rr
       cases ra
       cases rb
       obtain ⟨its, rva, pa, hza⟩ := I1.list (SqL.of g1)
       obtain ⟨its2, rvb, pb, hzb⟩ := I1.list (SqL.of g3)
       have la : p < s1.heap.objs.size := by obtain ⟨o, e, _⟩ := pa.isList; exact Heap.lt_size e
       have lb : q < s1.heap.objs.size := by obtain ⟨o, e, _⟩ := pb.isList; exact Heap.lt_size e
       refine call_zip_2 pa.isList pb.isList fun h' a1 a2 a3 a4 a5 a6 a7 => ?_
       refine wpAny_pyIter_zip (s := { s1 with heap := h' }) a1 ?_
       refine ⟨s1.heap.objs.size + 4, [s1.heap.objs.size + 4, s1.heap.objs.size + 2, s1.heap.objs.size + 3, s1.heap.objs.size, s1.heap.objs.size + 1], _, _, H1, rfl, I1.kept (t' := s1.toks) a7,
        b3W p q _ _ _ _ _ ts.length ⟨by lia, by lia, by lia, by lia, by lia, by lia, by lia, by lia, by lia, by lia, by lia, by lia, by lia, by lia, by lia, by lia, by lia, by lia⟩, ⟨_, _, a1, a2, a3, a4, a5⟩, fun c hc => ?_, en _ _ M1 H1 k1 h1 (b4H hl) q1⟩
       have hc2 : s1.heap.objs.size ≤ c := by
        simp only [List.mem_cons, List.not_mem_nil, or_false] at hc
        lia
       exact I1.fpOk hc2 (I1.hok.fresh hc2)
  ·exact q1.elim
 ·exact q1.elim
end
section
variable {X : Cx}
end
section
variable {X : Cx} {e : Expr} {te : TE3} {p p2 pos pos2 : Pos}
end
section
variable {X : Cx}
end
section
variable {P : Program} {w : World} {A : Around} {E : Value → Shared → Prop} {s : Shared}
end
section
variable {X : Cx}
end
section
variable {X : Cx}
end
section
variable {P : Program} {w : World} {A : Around} {E : Value → Shared → Prop} {s : Shared}
end
section
variable {P : Program} {w : World} {A : Around} {E : Value → Shared → Prop} {s : Shared} {K : Type} [DecidableEq K] {knd : KeyKind P w K}
end
section
variable {X : Cx}
end
section
variable {P : Program} {w : World} {A : Around} {E : Value → Shared → Prop} {s : Shared}
end
section
variable {X : Cx}
end
noncomputable abbrev Po := List (Int × Int)
noncomputable def co : Po → Int → Int
 | [], _ => 0
 | x :: r, k => (if x.1 = k then x.2 else 0) + co r k
noncomputable def CanP (p : Po) : Prop := p.Pairwise (fun a b => a.1 < b.1) ∧ ∀ x ∈ p, x.2 ≠ 0
theorem a3X (p q : Po) (k : Int) : co (p ++ q) k = co p k + co q k := by
 induction p with
 | nil => show co q k = 0 + co q k; lia
 | cons x r ih =>
   show (if x.1 = k then x.2 else 0) + co (r ++ q) k = ((if x.1 = k then x.2 else 0) + co r k) + co q k
   rw [ih]; lia
theorem b0o {p : Po} {k : Int} (h : ∀ x ∈ p, x.1 ≠ k) : co p k = 0 := by
 induction p with
 | nil => rfl
 | cons x r ih =>
   show (if x.1 = k then x.2 else 0) + co r k = 0
   rw [if_neg (h x (.head _)), ih fun y hy => h y (.tail _ hy)]; rfl
theorem b1c {p : Po} (h : p.Pairwise (fun a b => a.1 < b.1)) {x : Int × Int} (hx : x ∈ p) : co p x.1 = x.2 := by
 induction p with
 | nil => cases hx
 | cons y r ih =>
   obtain ⟨h1, h2⟩ := List.pairwise_cons.mp h
   show (if y.1 = x.1 then y.2 else 0) + co r x.1 = x.2
   rcases List.mem_cons.mp hx with e | e
   ·subst e
    rw [if_pos rfl, b0o fun z hz => Int.ne_of_gt (h1 z hz)]; lia
   ·rw [if_neg (Int.ne_of_lt (h1 x e)), ih h2 e]; lia
theorem b1f : ∀ {p q : Po}, CanP p → CanP q → (∀ k, co p k = co q k) → p = q
 | [], [], _, _, _ => rfl
 | [], y :: q, _, hq, h => by
   have e := b1c hq.1 (List.mem_cons_self (a := y) (l := q))
   rw [← h] at e
   exact absurd e.symm (hq.2 y (.head _))
 | x :: p, [], hp, _, h => by
   have e := b1c hp.1 (List.mem_cons_self (a := x) (l := p))
   rw [h] at e
   exact absurd e.symm (hp.2 x (.head _))
 | x :: p, y :: q, hp, hq, h => by
   obtain ⟨p1, p2⟩ := List.pairwise_cons.mp hp.1
   obtain ⟨q1, q2⟩ := List.pairwise_cons.mp hq.1
   have ex := b1c hp.1 (List.mem_cons_self (a := x) (l := p))
   have ey := b1c hq.1 (List.mem_cons_self (a := y) (l := q))
   have nx := hp.2 x (.head _)
   have ny := hq.2 y (.head _)
   have e1 : x.1 = y.1 := by
    rcases Int.lt_trichotomy x.1 y.1 with z | z | z
    ·rw [h, b0o] at ex
     ·exact absurd ex.symm nx
     ·intro w hw
      rcases List.mem_cons.mp hw with e | e
      ·rw [e]; exact Int.ne_of_gt z
      ·exact Int.ne_of_gt (Int.lt_trans z (q1 w e))
    ·exact z
    ·rw [← h, b0o] at ey
     ·exact absurd ey.symm ny
     ·intro w hw
      rcases List.mem_cons.mp hw with e | e
      ·rw [e]; exact Int.ne_of_gt z
      ·exact Int.ne_of_gt (Int.lt_trans z (p1 w e))
   have e2 : x.2 = y.2 := by rw [← ex, ← ey, e1, h]
   have exy : x = y := Prod.ext e1 e2
   subst exy
   refine congrArg (x :: ·) (b1f ⟨p2, fun z hz => hp.2 z (.tail _ hz)⟩ ⟨q2, fun z hz => hq.2 z (.tail _ hz)⟩ fun k => ?_)
   have := h k
   have t : (if x.1 = k then x.2 else 0) + co p k = (if x.1 = k then x.2 else 0) + co q k := this
   lia
noncomputable def putP (k c : Int) : Po → Po
 | [] => if c = 0 then [] else [(k, c)]
 | x :: r => if k < x.1 then (if c = 0 then x :: r else (k, c) :: x :: r) else if k = x.1 then (if x.2 + c = 0 then r else (k, x.2 + c) :: r) else x :: putP k c r
noncomputable def norm : Po → Po
 | [] => []
 | x :: r => putP x.1 x.2 (norm r)
theorem b3E (k c : Int) : ∀ (p : Po) (j : Int), co (putP k c p) j = (if k = j then c else 0) + co p j
 | [], j => by
   show co (if c = 0 then [] else [(k, c)]) j = (if k = j then c else 0) + 0
   by_cases h : c = 0
   ·rw [if_pos h, h]
    show 0 = (if k = j then 0 else 0) + 0
    split <;> rfl
   ·rw [if_neg h]; rfl
 | x :: r, j => by
   show co (if k < x.1 then (if c = 0 then x :: r else (k, c) :: x :: r) else if k = x.1 then (if x.2 + c = 0 then r else (k, x.2 + c) :: r) else x :: putP k c r) j = (if k = j then c else 0) + ((if x.1 = j then x.2 else 0) + co r j)
   by_cases h1 : k < x.1
   ·rw [if_pos h1]
    by_cases h : c = 0
    ·rw [if_pos h, h]
     show (if x.1 = j then x.2 else 0) + co r j = _
     split <;> split <;> lia
    ·rw [if_neg h]; rfl
   ·rw [if_neg h1]
    by_cases h2 : k = x.1
    ·rw [if_pos h2]
     by_cases h : x.2 + c = 0
     ·rw [if_pos h]
      split <;> split <;> lia
     ·rw [if_neg h]
      show (if k = j then x.2 + c else 0) + co r j = _
      split <;> split <;> lia
    ·rw [if_neg h2]
     show (if x.1 = j then x.2 else 0) + co (putP k c r) j = _
     rw [b3E k c r j]; lia
theorem b2t {k c m : Int} (hk : m < k) : ∀ {p : Po}, (∀ x ∈ p, m < x.1) → ∀ x ∈ putP k c p, m < x.1
 | [], _, x, hx => by
   have hx : x ∈ (if c = 0 then [] else [(k, c)]) := hx
   split at hx
   ·cases hx
   ·rw [List.mem_singleton.mp hx]; exact hk
 | y :: r, h, x, hx => by
   have hx : x ∈ (if k < y.1 then (if c = 0 then y :: r else (k, c) :: y :: r) else if k = y.1 then (if y.2 + c = 0 then r else (k, y.2 + c) :: r) else y :: putP k c r) := hx
   split at hx
   ·split at hx
    ·exact h x hx
    ·rcases List.mem_cons.mp hx with e | e
     ·rw [e]; exact hk
     ·exact h x e
   ·split at hx
    ·split at hx
     ·exact h x (.tail _ hx)
     ·rcases List.mem_cons.mp hx with e | e
      ·rw [e]; exact hk
      ·exact h x (.tail _ e)
    ·rcases List.mem_cons.mp hx with e | e
     ·rw [e]; exact h y (.head _)
     ·exact b2t hk (fun z hz => h z (.tail _ hz)) x e
theorem a9m (k c : Int) : ∀ {p : Po}, CanP p → CanP (putP k c p)
 | [], _ => by
   show CanP (if c = 0 then [] else [(k, c)])
   split
   ·exact ⟨.nil, fun _ h => absurd h List.not_mem_nil⟩
   ·rename_i h
    exact ⟨List.pairwise_singleton _ _, fun x hx => by rw [List.mem_singleton.mp hx]; exact h⟩
 | y :: r, h => by
   obtain ⟨h1, h2⟩ := List.pairwise_cons.mp h.1
   show CanP (if k < y.1 then (if c = 0 then y :: r else (k, c) :: y :: r) else if k = y.1 then (if y.2 + c = 0 then r else (k, y.2 + c) :: r) else y :: putP k c r)
   split
   ·rename_i a
    split
    ·exact h
    ·rename_i b
     refine ⟨List.pairwise_cons.mpr ⟨fun z hz => ?_, h.1⟩, fun z hz => ?_⟩
     ·rcases List.mem_cons.mp hz with e | e
      ·rw [e]; exact a
      ·exact Int.lt_trans a (h1 z e)
     ·rcases List.mem_cons.mp hz with e | e
      ·rw [e]; exact b
      ·exact h.2 z e
   ·split
    ·rename_i a b
     split
     ·exact ⟨h2, fun z hz => h.2 z (.tail _ hz)⟩
     ·rename_i d
      refine ⟨List.pairwise_cons.mpr ⟨fun z hz => by rw [b]; exact h1 z hz, h2⟩, fun z hz => ?_⟩
      rcases List.mem_cons.mp hz with e | e
      ·rw [e]; exact d
      ·exact h.2 z (.tail _ e)
    ·rename_i a b
     have ih := a9m k c (p := r) ⟨h2, fun z hz => h.2 z (.tail _ hz)⟩
     refine ⟨List.pairwise_cons.mpr ⟨fun z hz => b2t (by lia) h1 z hz, ih.1⟩, fun z hz => ?_⟩
     rcases List.mem_cons.mp hz with e | e
     ·rw [e]; exact h.2 y (.head _)
     ·exact ih.2 z e
theorem a8p : ∀ (p : Po) (k : Int), co (norm p) k = co p k
 | [], _ => rfl
 | x :: r, k => by
   show co (putP x.1 x.2 (norm r)) k = (if x.1 = k then x.2 else 0) + co r k
   rw [b3E, a8p r]
theorem a9n : ∀ p : Po, CanP (norm p)
 | [] => ⟨.nil, fun _ h => absurd h List.not_mem_nil⟩
 | x :: r => a9m x.1 x.2 (a9n r)
noncomputable def addP (p q : Po) : Po := norm (p ++ q)
noncomputable def rawM (p q : Po) : Po := p.flatMap fun a => q.map fun b => (a.1 + b.1, a.2 * b.2)
noncomputable def b2O (p q : Po) : Po := norm (rawM p q)
section
variable {X : Cx}
end
section
variable {X : Cx} {a b e : Expr} {pos : Pos}
end
section
variable {X : Cx} {Ha : Hp} {e : Expr} {te : TE3} {pos : Pos}
end
section
variable {X : Cx}
end
section
variable {X : Cx}
end
section
variable {X : Cx}
end
section
variable {X : Cx}
end
noncomputable def cv : Po → (Int → Int) → Int → Int
 | [], _, _ => 0
 | x :: a, f, c => x.2 * f (c - x.1) + cv a f c
theorem b1a (x : Int × Int) (c : Int) : ∀ b : Po, co (b.map fun y => (x.1 + y.1, x.2 * y.2)) c = x.2 * co b (c - x.1)
 | [] => by show (0 : Int) = x.2 * 0; rw [Int.mul_zero]
 | y :: b => by
   show (if x.1 + y.1 = c then x.2 * y.2 else 0) + co (b.map fun y => (x.1 + y.1, x.2 * y.2)) c = x.2 * ((if y.1 = c - x.1 then y.2 else 0) + co b (c - x.1))
   rw [b1a x c b, Int.mul_add]
   by_cases h : x.1 + y.1 = c
   ·rw [if_pos h, if_pos (by lia)]
   ·rw [if_neg h, if_neg (by lia), Int.mul_zero]
theorem b1b (b : Po) (c : Int) : ∀ a : Po, co (rawM a b) c = cv a (co b) c
 | [] => rfl
 | x :: a => by
   show co ((b.map fun y => (x.1 + y.1, x.2 * y.2)) ++ rawM a b) c = x.2 * co b (c - x.1) + cv a (co b) c
   rw [a3X, b1a, b1b b c a]
theorem a9i (f : Int → Int) (c : Int) : ∀ p q : Po, cv (p ++ q) f c = cv p f c + cv q f c
 | [], q => by show cv q f c = 0 + cv q f c; lia
 | x :: p, q => by
   show x.2 * f (c - x.1) + cv (p ++ q) f c = x.2 * f (c - x.1) + cv p f c + cv q f c
   rw [a9i f c p q]; lia
theorem b0W (x : Int × Int) (f : Int → Int) (c : Int) : ∀ q : Po, cv (q.map fun y => (x.1 + y.1, x.2 * y.2)) f c = x.2 * cv q f (c - x.1)
 | [] => by show (0 : Int) = x.2 * 0; rw [Int.mul_zero]
 | y :: q => by
   show x.2 * y.2 * f (c - (x.1 + y.1)) + cv (q.map fun y => (x.1 + y.1, x.2 * y.2)) f c = x.2 * (y.2 * f (c - x.1 - y.1) + cv q f (c - x.1))
   rw [b0W x f c q, Int.mul_add, Int.mul_assoc, show c - (x.1 + y.1) = c - x.1 - y.1 by lia]
theorem b5x (q : Po) (f : Int → Int) (c : Int) : ∀ p : Po, cv (rawM p q) f c = cv p (cv q f) c
 | [] => rfl
 | x :: p => by
   show cv ((q.map fun y => (x.1 + y.1, x.2 * y.2)) ++ rawM p q) f c = x.2 * cv q f (c - x.1) + cv p (cv q f) c
   rw [a9i, b0W, b5x q f c p]
theorem b3C (k v : Int) (f : Int → Int) (c : Int) : ∀ p : Po, cv (putP k v p) f c = v * f (c - k) + cv p f c
 | [] => by
   show cv (if v = 0 then [] else [(k, v)]) f c = v * f (c - k) + 0
   split
   ·rename_i h; subst h; show (0 : Int) = _; rw [Int.zero_mul]; rfl
   ·rfl
 | x :: r => by
   have ih := b3C k v f c r
   show cv (if k < x.1 then (if v = 0 then x :: r else (k, v) :: x :: r) else if k = x.1 then (if x.2 + v = 0 then r else (k, x.2 + v) :: r) else x :: putP k v r) f c = _
   split
   ·split
    ·rename_i h; subst h; rw [Int.zero_mul, Int.zero_add]
    ·rfl
   ·split
    ·rename_i h; subst h
     split
     ·rename_i h
      show cv r f c = v * f (c - x.1) + (x.2 * f (c - x.1) + cv r f c)
      rw [← Int.add_assoc, ← Int.add_mul, show v + x.2 = 0 by lia, Int.zero_mul, Int.zero_add]
     ·show (x.2 + v) * f (c - x.1) + cv r f c = v * f (c - x.1) + (x.2 * f (c - x.1) + cv r f c)
      rw [Int.add_mul]; lia
    ·show x.2 * f (c - x.1) + cv (putP k v r) f c = v * f (c - k) + (x.2 * f (c - x.1) + cv r f c)
     rw [ih]; lia
theorem b0j (f : Int → Int) (c : Int) : ∀ p : Po, cv (norm p) f c = cv p f c
 | [] => rfl
 | x :: p => by
   show cv (putP x.1 x.2 (norm p)) f c = x.2 * f (c - x.1) + cv p f c
   rw [b3C, b0j f c p]
theorem a6H (x : Int × Int) (p : Po) (c : Int) : ∀ q : Po, co (rawM q (x :: p)) c = co (q.map fun y => (x.1 + y.1, x.2 * y.2)) c + co (rawM q p) c
 | [] => rfl
 | y :: q => by
   show co (((y.1 + x.1, y.2 * x.2) :: p.map fun b => (y.1 + b.1, y.2 * b.2)) ++ rawM q (x :: p)) c = ((if x.1 + y.1 = c then x.2 * y.2 else 0) + co (q.map fun y => (x.1 + y.1, x.2 * y.2)) c) + co ((p.map fun b => (y.1 + b.1, y.2 * b.2)) ++ rawM q p) c
   rw [a3X, a3X, a6H x p c q]
   show ((if y.1 + x.1 = c then y.2 * x.2 else 0) + _) + _ = _
   rw [Int.add_comm y.1, Int.mul_comm y.2]; lia
theorem a6I (c : Int) (q : Po) : ∀ p : Po, co (rawM p q) c = co (rawM q p) c
 | [] => by
   have : ∀ q : Po, rawM q [] = [] := fun q => by
    induction q with
    | nil => rfl
    | cons y q ih => show [] ++ rawM q [] = []; rw [ih]; rfl
   rw [this]; rfl
 | x :: p => by
   show co ((q.map fun y => (x.1 + y.1, x.2 * y.2)) ++ rawM p q) c = _
   rw [a3X, a6H, a6I c q p]
theorem b6Y (p q : Po) (c : Int) : co (addP p q) c = co p c + co q c := by unfold addP; rw [a8p, a3X]
theorem b6X (p q : Po) (c : Int) : co (b2O p q) c = cv p (co q) c := by unfold b2O; rw [a8p, b1b]
noncomputable abbrev Lp := {p : Po // CanP p}
noncomputable def toL (p : Po) : Lp := ⟨norm p, a9n p⟩
noncomputable instance : Add Lp := ⟨fun p q => toL (addP p.1 q.1)⟩
noncomputable instance : Mul Lp := ⟨fun p q => toL (b2O p.1 q.1)⟩
theorem Lp.ext2 {p q : Lp} (h : ∀ c, co p.1 c = co q.1 c) : p = q := Subtype.ext (b1f p.2 q.2 h)
theorem co_L (p : Po) (c : Int) : co (toL p).1 c = co p c := a8p p c
theorem a5z (p q : Lp) (c : Int) : co (p + q).1 c = co p.1 c + co q.1 c := (co_L _ c).trans (b6Y _ _ c)
theorem a6J (p q : Lp) (c : Int) : co (p * q).1 c = cv p.1 (co q.1) c := (co_L _ c).trans (b6X _ _ c)
theorem cv_L (p : Po) (f : Int → Int) (c : Int) : cv (toL p).1 f c = cv p f c := b0j f c p
theorem b3S (p q : Lp) : p + q = q + p := Lp.ext2 fun c => by rw [a5z, a5z]; lia
theorem b1X (p q r : Lp) : p + q + r = p + (q + r) := Lp.ext2 fun c => by rw [a5z, a5z, a5z, a5z]; lia
theorem b2P (p q : Lp) : p * q = q * p := Lp.ext2 fun c => by rw [a6J, a6J, ← b1b, ← b1b, a6I]
theorem b1C (p q r : Lp) : p * q * r = p * (q * r) := Lp.ext2 fun c => by
 rw [a6J, a6J]
 have e : co (q * r).1 = cv q.1 (co r.1) := funext fun c => a6J q r c
 rw [e, ← b5x]
 show cv (toL (b2O p.1 q.1)).1 (co r.1) c = _
 rw [cv_L]; unfold b2O; rw [b0j]
instance : Std.Associative (α := Lp) (· * ·) := ⟨b1C⟩
instance : Std.Commutative (α := Lp) (· * ·) := ⟨b2P⟩
instance : Std.Associative (α := Lp) (· + ·) := ⟨b1X⟩
instance : Std.Commutative (α := Lp) (· + ·) := ⟨b3S⟩
section
variable {P : Program} {w : World} {A : Around} {E : Value → Shared → Prop} {s : Shared}
end
section
variable {X : Cx}
end
theorem b3P {m : Int} : ∀ {k : Nat} {r : List Int}, r ∈ alR m k ↔ r.length = k ∧ InA m r := fun {k r} => by
 refine ⟨a6M, ?_⟩
 induction k generalizing r with
 | zero =>
   rintro ⟨h, _⟩
   rw [List.eq_nil_of_length_eq_zero h]
   exact .head _
 | succ k ih =>
   rintro ⟨h, hA⟩
   have hne : r ≠ [] := fun z => by rw [z] at h; cases h
   have e : r.dropLast ++ [r.getLast hne] = r := List.dropLast_concat_getLast hne
   rw [← e]
   refine List.mem_flatMap.mpr ⟨r.dropLast, ih ⟨by rw [List.length_dropLast]; lia, fun c hc => hA c (List.dropLast_subset _ hc)⟩, ?_⟩
   exact List.mem_map.mpr ⟨_, a0h.mpr (hA _ (List.getLast_mem hne)), rfl⟩
theorem a4V (m : Int) : (a0l m).Nodup := by
 unfold a0l
 exact List.pairwise_map.mpr (List.nodup_range.imp fun h z => h (by lia))
theorem b3O (m : Int) : ∀ k, (alR m k).Nodup
 | 0 => List.pairwise_singleton _ _
 | k + 1 => by
   have key : ∀ R : List (List Int), R.Nodup → (R.flatMap (a4H m)).Nodup := fun R => by
    induction R with
    | nil => intro _; exact .nil
    | cons r R ih =>
      intro h
      rw [List.flatMap_cons]
      obtain ⟨h1, h2⟩ := List.nodup_cons.mp h
      refine List.nodup_append.mpr ⟨?_, ih h2, fun a ha b hb z => ?_⟩
      ·unfold a4H
       exact List.pairwise_map.mpr ((a4V m).imp fun h z => h (by simpa using z))
      ·obtain ⟨q, hq, hb⟩ := List.mem_flatMap.mp hb
       obtain ⟨c, _, rfl⟩ := List.mem_map.mp ha
       obtain ⟨d, _, e⟩ := List.mem_map.mp hb
       rw [← z] at e
       have := (List.append_inj' e rfl).1
       rw [this] at hq
       exact h1 hq
   exact key _ (b3O m k)
noncomputable def fixR (tab : List (List Int)) (ws : List Int) (n : Nat) : List (List Int) := (alR tab.length n).filter fun row => decide (dn tab ws row = row)
theorem a3o {tab : List (List Int)} {ws : List Int} {n : Nat} {r : List Int} : r ∈ fixR tab ws n ↔ (r.length = n ∧ InA tab.length r) ∧ dn tab ws r = r := by
 unfold fixR
 rw [List.mem_filter, b3P, decide_eq_true_eq]
theorem a8m (tab : List (List Int)) (ws : List Int) (n : Nat) : (fixR tab ws n).Nodup := (b3O _ _).filter _
theorem a6w {α β : Type} {l : List α} {r : List β} (nd : l.Nodup) (f : α → β) (hf : ∀ x ∈ l, f x ∈ r) (hi : ∀ x ∈ l, ∀ y ∈ l, f x = f y → x = y) : l.length ≤ r.length := by
 have h : (l.map f).Nodup := by
  refine List.pairwise_map.mpr ?_
  refine List.Pairwise.imp_of_mem (fun hx hy h z => h (hi _ hx _ hy z)) nd
 rw [← List.length_map (f := f)]
 exact List.Nodup.length_le_of_subset h fun y hy => by
  obtain ⟨x, hx, rfl⟩ := List.mem_map.mp hy
  exact hf x hx
theorem a6B {tab : List (List Int)} (h : TabQ tab) {n : Nat} {u v : List Int} (hu : WordOK n u) (hv : WordOK n v) : (fixR tab (u ++ v) n).length ≤ (fixR tab (v ++ u) n).length := by
 have back : ∀ r ∈ fixR tab (u ++ v) n, dn tab v (dn tab u r) = r := fun r hr => by
  rw [← a2j]; exact (a3o.mp hr).2
 refine a6w (a8m _ _ _) (dn tab u) (fun r hr => ?_) fun x hx y hy e => by rw [← back x hx, ← back y hy, e]
 obtain ⟨⟨h1, h2⟩, h3⟩ := a3o.mp hr
 refine a3o.mpr ⟨⟨by rw [a3g]; exact h1, b1R h (by rw [h1]; exact hu) h2⟩, ?_⟩
 rw [a2j, back r hr]
theorem a8l {tab : List (List Int)} (h : TabQ tab) {n : Nat} {u v : List Int} (hu : WordOK n u) (hv : WordOK n v) : (fixR tab (u ++ v) n).length = (fixR tab (v ++ u) n).length := Nat.le_antisymm (a6B h hu hv) (a6B h hv hu)
theorem b0f {tab : List (List Int)} (h : TabQ tab) {n : Nat} {w v : List Int} (r : RelW n w v) (hw : WordOK n w) : fixR tab w n = fixR tab v n := by
 unfold fixR
 refine List.filter_congr fun x hx => ?_
 obtain ⟨a, b⟩ := a6M hx
 rw [b8J h r (by rw [a]) b hw]
noncomputable def twT : List (Int × Int × List Stp) := [(2, 1, []), (2, -1, [.inn 0 (-1), .out 2]), (3, 1, [.three 0]), (3, -1, [.inn 0 (-2), .three 1, .out 4]), (3, 2, [.three 1]), (3, -2, [.inn 0 (-1), .three 2, .out 4]), (4, 1, [.three 3, .three 1, .far 0]), (4, -1, [.inn 0 (-3), .far 1, .three 2, .three 4, .out 7]), (4, 2, [.far 2, .three 0, .three 4]), (4, -2, [.inn 0 (-2), .three 5, .three 1, .far 3, .out 7]), (4, 3, [.far 2, .far 5, .three 3, .three 1, .far 3]), (4, -3, [.inn 0 (-1), .far 4, .three 2, .three 4, .far 6, .far 3, .out 7]), (5, 1, [.three 7, .three 5, .far 4, .three 2, .far 1, .far 0]), (5, -1, [.inn 0 (-4), .far 1, .far 2, .three 3, .far 5, .three 6, .three 8, .out 11]), (5, 2, [.far 6, .three 4, .three 8, .far 3, .three 1, .far 0]), (5, -2, [.inn 0 (-3), .far 1, .three 2, .far 4, .three 9, .three 5, .far 7, .out 11]), (5, 3, [.far 6, .far 9, .three 7, .three 5, .far 3, .far 2, .three 0, .far 7]), (5, -3, [.inn 0 (-2), .far 8, .three 1, .far 3, .far 4, .three 6, .three 8, .far 10, .far 7, .out 11]), (5, 4, [.far 3, .far 2, .far 4, .far 9, .far 8, .far 7, .three 5, .three 3, .three 1, .far 5, .far 3, .far 4]), (5, -4, [.inn 0 (-1), .far 5, .far 4, .far 6, .three 2, .three 4, .three 6, .far 8, .far 9, .far 10, .far 5, .far 3, .far 4, .out 11]), (6, 1, [.three 12, .three 10, .far 9, .three 7, .far 6, .far 5, .three 3, .far 2, .far 1, .far 0]), (6, -1, [.inn 0 (-5), .far 1, .far 2, .far 3, .three 4, .far 6, .far 7, .three 8, .far 10, .three 11, .three 13, .out 16]), (6, 2, [.far 11, .three 9, .far 8, .three 6, .three 13, .far 5, .far 4, .three 2, .far 1, .far 0]), (6, -2, [.inn 0 (-4), .far 1, .far 2, .three 3, .far 5, .far 6, .three 14, .three 7, .far 9, .three 10, .far 12, .out 16]), (6, 3, [.far 8, .far 7, .far 11, .far 14, .three 12, .three 10, .three 5, .far 4, .far 3, .three 1, .far 12, .far 0]), (6, -3, [.inn 0 (-3), .far 1, .far 13, .three 2, .far 4, .far 5, .three 6, .three 11, .three 13, .far 15, .far 12, .far 8, .far 9, .out 16]), (6, 4, [.far 8, .far 7, .far 9, .far 14, .far 13, .far 12, .three 10, .three 8, .three 6, .far 4, .far 3, .far 2, .three 0, .far 10, .far 8, .far 9]), (6, -4, [.inn 0 (-2), .far 10, .far 9, .far 11, .three 1, .far 3, .far 4, .far 5, .three 7, .three 9, .three 11, .far 13, .far 14, .far 15, .far 10, .far 8, .far 9, .out 16]), (6, 5, [.far 4, .far 5, .far 6, .far 14, .far 13, .far 12, .far 11, .far 10, .far 9, .three 7, .far 3, .far 4, .three 5, .far 2, .three 3, .three 1, .far 7, .far 5, .far 6, .far 3, .far 4, .far 5]), (6, -5, [.inn 0 (-1), .far 6, .far 5, .far 4, .far 7, .far 6, .far 8, .three 2, .three 4, .far 3, .three 6, .far 5, .far 4, .three 8, .far 10, .far 11, .far 12, .far 13, .far 14, .far 15, .far 7, .far 6, .far 5, .out 16])]
theorem b7f : ∀ x ∈ twT, aftL x.1 (twF x.1 ++ [x.2.1]) x.2.2 = some ([a3w x.1 x.2.1] ++ twF x.1) := by decide +kernel
theorem b5D : ∀ n ∈ [(2 : Int), 3, 4, 5, 6], ∀ k ∈ List.range (n - 1).toNat, (twT.any fun x => decide (x.1 = n) && decide (x.2.1 = ((k : Nat) : Int) + 1)) = true ∧ (twT.any fun x => decide (x.1 = n) && decide (x.2.1 = -(((k : Nat) : Int) + 1))) = true := by decide +kernel
theorem b1Z {n l : Int} (h1 : 2 ≤ n) (h2 : n ≤ 6) (ht : WordOK n (twF n)) (hl : LetOK n l) : RelW n (twF n ++ [l]) ([a3w n l] ++ twF n) := by
 have hn : n ∈ [(2 : Int), 3, 4, 5, 6] := by
  rcases (show n = 2 ∨ n = 3 ∨ n = 4 ∨ n = 5 ∨ n = 6 by lia) with rfl | rfl | rfl | rfl | rfl <;> decide
 obtain ⟨a1, a2⟩ := hl
 obtain ⟨b1, b2⟩ := b5D n hn (l.natAbs - 1) (List.mem_range.mpr (by lia))
 have key : ∃ x ∈ twT, x.1 = n ∧ x.2.1 = l := by
  by_cases c : 0 < l
  ·obtain ⟨x, hx, e⟩ := List.any_eq_true.mp b1
   rw [Bool.and_eq_true, decide_eq_true_eq, decide_eq_true_eq] at e
   exact ⟨x, hx, e.1, by lia⟩
  ·obtain ⟨x, hx, e⟩ := List.any_eq_true.mp b2
   rw [Bool.and_eq_true, decide_eq_true_eq, decide_eq_true_eq] at e
   exact ⟨x, hx, e.1, by lia⟩
 obtain ⟨x, hx, rfl, rfl⟩ := key
 exact b1i (ht.append (a6Y ⟨a1, a2⟩)) (b7f x hx)
theorem b5e {n : Int} (h1 : 2 ≤ n) (h2 : n ≤ 6) (ht : WordOK n (twF n)) : ∀ {w : List Int}, WordOK n w → RelW n (twF n ++ w) (w.map (a3w n) ++ twF n)
 | [], _ => by rw [List.append_nil]; exact .refl _
 | l :: w, hw => by
   have hl := hw l (.head _)
   have hw' : WordOK n w := fun x hx => hw x (.tail _ hx)
   have a := (b1Z h1 h2 ht hl).rt hw'
   rw [List.append_assoc] at a
   have b := RelW.lf (a6Y hl.flip) (b5e h1 h2 ht hw')
   rw [List.append_assoc] at a
   exact a.trans b
theorem b4Q {tab : List (List Int)} (h : TabQ tab) {n : Nat} (h1 : 2 ≤ n) (h2 : n ≤ 6) (ht : WordOK n (twF n)) {w : List Int} (hw : WordOK n w) (hf : WordOK n (w.map (a3w n))) : (fixR tab (w.map (a3w n)) n).length = (fixR tab w n).length := by
 have r := b5e (n := n) (by lia) (by lia) ht hw
 have e1 : RelW n (twF n ++ w ++ a1C (twF n)) (w.map (a3w n)) := by
  have a := r.rt ht.contr
  have b : RelW n (w.map (a3w n) ++ twF n ++ a1C (twF n)) (w.map (a3w n)) := by
   rw [List.append_assoc]
   have c := RelW.bk ht.contr
   rw [a9j] at c
   have d := RelW.lf hf c
   rwa [List.append_nil] at d
  exact a.trans b
 have e2 : RelW n (w ++ a1C (twF n) ++ twF n) w := by
  rw [List.append_assoc]
  have d := RelW.lf hw (RelW.bk ht)
  rwa [List.append_nil] at d
 rw [← b0f h e1 ((ht.append hw).append ht.contr), ← b0f h e2 ((hw.append ht.contr).append ht), List.append_assoc, a8l h ht (hw.append ht.contr)]
theorem b3w {tab : List (List Int)} {n : Nat} (c : Int) : ∀ {w r : List Int}, r.length = n → WordOK n w → dn tab w (r ++ [c]) = dn tab w r ++ [c]
 | [], r, _, _ => rfl
 | l :: w, r, h, hw => by
   have hl := hw l (.head _)
   have e : dn1 tab (r ++ [c]) l = dn1 tab r l ++ [c] := by
    obtain ⟨k, hk⟩ : ∃ k : Nat, l.natAbs = k + 1 := ⟨l.natAbs - 1, by obtain ⟨a, b⟩ := hl; lia⟩
    obtain ⟨p, a, b, q, rfl, hp⟩ := cutC (cs := r) (k := k) (by obtain ⟨a, b⟩ := hl; lia)
    rw [List.append_assoc]
    show dn1 tab (p ++ a :: b :: (q ++ [c])) l = _
    rw [a2I (by rw [hp, hk]), a2I (by rw [hp, hk]), List.append_assoc]; rfl
   show dn tab w (dn1 tab (r ++ [c]) l) = dn tab w (dn1 tab r l) ++ [c]
   rw [e, b3w c (by rw [a3x]; exact h) fun x hx => hw x (.tail _ hx)]
theorem b2v {tab : List (List Int)} (h : TabQ tab) {a l : Int} (ha : InM tab.length a) : pr1 tab l a a = a ∧ pr2 tab l a a = a := by
 have e : iv tab a a = a := by
  have := h.iv_g ha ha
  rwa [h.idem a ha] at this
 unfold pr1 pr2
 split
 ·exact ⟨rfl, h.idem a ha⟩
 ·exact ⟨e, rfl⟩
theorem b6q {tab : List (List Int)} (h : TabQ tab) {a b x l : Int} (hb : InM tab.length b) (hx : InM tab.length x) (e1 : pr1 tab l x b = a) (e2 : pr2 tab l x b = b) : x = b ∧ a = b := by
 unfold pr1 at e1
 unfold pr2 at e2
 by_cases c : l > 0
 ·rw [if_pos c] at e1 e2
  exact ⟨h.inj hx hb hb (e2.trans (h.idem b hb).symm), e1.symm⟩
 ·rw [if_neg c] at e1 e2
  have e : iv tab b b = b := by
   have := h.iv_g hb hb
   rwa [h.idem b hb] at this
  subst e2
  exact ⟨rfl, e1.symm.trans e⟩
theorem a5R {r : List Int} {n : Nat} (h : r.length = n + 1) : ∃ q a, r = q ++ [a] ∧ q.length = n := by
 have hne : r ≠ [] := fun z => by rw [z] at h; cases h
 exact ⟨r.dropLast, r.getLast hne, (List.dropLast_concat_getLast hne).symm, by rw [List.length_dropLast]; lia⟩
theorem a5J {tab : List (List Int)} (h : TabQ tab) {n : Nat} {w : List Int} {l : Int} (hw : WordOK (n + 1 : Nat) w) (hl : l.natAbs = n + 1) {q : List Int} {a b : Int} (hq : q.length = n) (hA : InA tab.length (q ++ [a])) (hb : InM tab.length b) :
  dn tab (w ++ [l]) (q ++ [a] ++ [b]) = q ++ [a] ++ [b] ↔ dn tab w (q ++ [a]) = q ++ [a] ∧ b = a := by
 have hqa : (q ++ [a]).length = n + 1 := by rw [List.length_append, hq]; rfl
 rw [a2j, b3w b hqa hw]
 obtain ⟨q', x, e, hq'⟩ := a5R (n := n) (r := dn tab w (q ++ [a])) (by rw [a3g]; exact hqa)
 have hA2 := b1R h (w := w) (cs := q ++ [a]) (by rw [hqa]; exact hw) hA
 rw [e] at hA2 ⊢
 have hx : InM tab.length x := hA2 x (List.mem_append.mpr (.inr (.head _)))
 have e3 : dn tab [l] (q' ++ [x] ++ [b]) = q' ++ [pr1 tab l x b] ++ [pr2 tab l x b] := by
  show dn1 tab (q' ++ [x] ++ [b]) l = _
  rw [List.append_assoc]
  show dn1 tab (q' ++ x :: b :: []) l = _
  rw [a2I (by rw [hq', hl]), List.append_assoc]; rfl
 rw [e3]
 constructor
 ·intro z
  obtain ⟨z1, z2⟩ := List.append_inj' z rfl
  obtain ⟨z3, z4⟩ := List.append_inj' z1 rfl
  obtain ⟨g1, g2⟩ := b6q h hb hx (by simpa using z4) (by simpa using z2)
  exact ⟨by rw [z3, g1, g2], g2.symm⟩
 ·rintro ⟨z, rfl⟩
  obtain ⟨z3, z4⟩ := List.append_inj' z rfl
  have z5 : x = b := by simpa using z4
  subst z5
  rw [z3, (b2v h hb).1, (b2v h hb).2]
theorem b0P {tab : List (List Int)} (h : TabQ tab) {n : Nat} {w : List Int} {l : Int} (hw : WordOK (n + 1 : Nat) w) (hl : l.natAbs = n + 1) : (fixR tab w (n + 1)).length = (fixR tab (w ++ [l]) (n + 2)).length := by
 refine Nat.le_antisymm ?_ ?_
 ·refine a6w (a8m _ _ _) (fun r => r ++ [r.getLastD 0]) (fun r hr => ?_) fun x hx y hy e => (List.append_inj' e rfl).1
  obtain ⟨⟨h1, h2⟩, h3⟩ := a3o.mp hr
  obtain ⟨q, a, rfl, hq⟩ := a5R h1
  have ha : InM tab.length a := h2 a (List.mem_append.mpr (.inr (.head _)))
  have e : (q ++ [a]).getLastD 0 = a := by simp
  rw [e]
  refine a3o.mpr ⟨⟨by rw [List.length_append, h1]; rfl, fun c hc => ?_⟩, (a5J h hw hl hq h2 ha).mpr ⟨h3, rfl⟩⟩
  rcases List.mem_append.mp hc with z | z
  ·exact h2 c z
  ·rw [List.mem_singleton.mp z]; exact ha
 ·have key : ∀ r ∈ fixR tab (w ++ [l]) (n + 2), ∃ q a, r = q ++ [a] ++ [a] ∧ q.length = n ∧ q ++ [a] ∈ fixR tab w (n + 1) := fun r hr => by
   obtain ⟨⟨h1, h2⟩, h3⟩ := a3o.mp hr
   obtain ⟨r1, b, rfl, hr1⟩ := a5R h1
   obtain ⟨q, a, rfl, hq⟩ := a5R hr1
   have hA : InA tab.length (q ++ [a]) := fun c hc => h2 c (List.mem_append.mpr (.inl hc))
   have hb : InM tab.length b := h2 b (List.mem_append.mpr (.inr (.head _)))
   obtain ⟨g1, rfl⟩ := (a5J h hw hl hq hA hb).mp h3
   exact ⟨q, b, rfl, hq, a3o.mpr ⟨⟨hr1, hA⟩, g1⟩⟩
  refine a6w (a8m _ _ _) (fun r => r.take (n + 1)) (fun r hr => ?_) fun x hx y hy e => ?_
  ·obtain ⟨q, a, rfl, hq, g⟩ := key r hr
   have e : (q ++ [a] ++ [a]).take (n + 1) = q ++ [a] := List.take_left' (by rw [List.length_append, hq]; rfl)
   rw [e]; exact g
  ·obtain ⟨q, a, rfl, hq, g⟩ := key x hx
   obtain ⟨q2, a2, rfl, hq2, g2⟩ := key y hy
   have e1 : (q ++ [a] ++ [a]).take (n + 1) = q ++ [a] := List.take_left' (by rw [List.length_append, hq]; rfl)
   have e2 : (q2 ++ [a2] ++ [a2]).take (n + 1) = q2 ++ [a2] := List.take_left' (by rw [List.length_append, hq2]; rfl)
   have e3 : q ++ [a] = q2 ++ [a2] := by rw [← e1, ← e2]; exact e
   obtain ⟨z1, z2⟩ := List.append_inj' e3 rfl
   have z3 : a = a2 := by simpa using z2
   rw [z1, z3]
noncomputable def a6Q (p : Int) : Prop := 2 ≤ p ∧ ∀ q : Int, 2 ≤ q → q < p → p % q ≠ 0
theorem a3T {p a b : Int} (hp : a6Q p) (ha : a % p ≠ 0) (h : (a * b) % p = 0) : b % p = 0 := by
 obtain ⟨p2, hp⟩ := hp
 have h1 : p.natAbs ∣ a.natAbs * b.natAbs := by
  rw [← Int.natAbs_mul]
  exact Int.natAbs_dvd_natAbs.mpr (Int.dvd_of_emod_eq_zero h)
 have hg : Nat.gcd p.natAbs a.natAbs = 1 := by
  have d1 := Nat.gcd_dvd_left p.natAbs a.natAbs
  have d2 := Nat.gcd_dvd_right p.natAbs a.natAbs
  generalize Nat.gcd p.natAbs a.natAbs = g at d1 d2
  have hle := Nat.le_of_dvd (by lia) d1
  have hpos := Nat.pos_of_dvd_of_pos d1 (by lia)
  by_cases e : g = p.natAbs
  ·rw [e] at d2
   exact absurd (Int.emod_eq_zero_of_dvd (Int.natAbs_dvd_natAbs.mp d2)) ha
  ·by_cases e1 : g = 1
   ·exact e1
   ·refine absurd (Int.emod_eq_zero_of_dvd ?_) (hp g (by lia) (by lia))
    have : ((g : Nat) : Int).natAbs ∣ p.natAbs := by rw [Int.natAbs_natCast]; exact d1
    exact Int.natAbs_dvd_natAbs.mp this
 have h2 := Nat.Coprime.dvd_of_dvd_mul_left hg h1
 exact Int.emod_eq_zero_of_dvd (Int.natAbs_dvd_natAbs.mp h2)
theorem a8f {p a b : Int} (h : a % p = b % p) : (a - b) % p = 0 := by rw [Int.sub_emod, h, Int.sub_self, Int.zero_emod]
theorem a7B {p a b : Int} (h : (a - b) % p = 0) : a % p = b % p := Int.emod_eq_emod_iff_emod_sub_eq_zero.mpr h
theorem a4W {p a b : Int} (ha : InM p a) (hb : InM p b) (h : a % p = b % p) : a = b := by
 rwa [Int.emod_eq_of_lt ha.1 ha.2, Int.emod_eq_of_lt hb.1 hb.2] at h
theorem b1s {p a : Int} (hp : a6Q p) (ha : a % p ≠ 0) (c : Int) : ∃ x, InM p x ∧ (a * x - c) % p = 0 := by
 have p0 : 0 < p := by have := hp.1; lia
 have nd : ((a0l p).map fun x => (a * x) % p).Nodup := by
  refine List.pairwise_map.mpr (List.Pairwise.imp_of_mem (fun hx hy h z => h ?_) (a4V p))
  refine a4W (a0h.mp hx) (a0h.mp hy) (a7B (a3T hp ha ?_))
  rw [Int.mul_sub]
  exact a8f z
 have sub : ∀ y ∈ (a0l p).map (fun x => (a * x) % p), y ∈ a0l p := fun y hy => by
  obtain ⟨x, _, rfl⟩ := List.mem_map.mp hy
  exact a0h.mpr ⟨Int.emod_nonneg _ (by lia), Int.emod_lt_of_pos _ p0⟩
 have hperm := a3J _ _ nd sub (by rw [List.length_map]; exact Nat.le_refl _)
 have hc : c % p ∈ a0l p := a0h.mpr ⟨Int.emod_nonneg _ (by lia), Int.emod_lt_of_pos _ p0⟩
 obtain ⟨x, hx, e⟩ := List.mem_map.mp (hperm.mem_iff.mpr hc)
 exact ⟨x, a0h.mp hx, a8f e⟩
noncomputable def dotF (row : List Int) : Nat → List Int → Int
 | _, [] => 0
 | c, x :: xs => row.getD c 0 * x + dotF row (c + 1) xs
noncomputable def solS (p : Int) (c k : Nat) (rows : List (List Int)) : List (List Int) := (alR p k).filter fun xs => rows.all fun r => decide (dotF r c xs % p = 0)
theorem a3G {p : Int} {c k : Nat} {rows : List (List Int)} {xs : List Int} : xs ∈ solS p c k rows ↔ (xs.length = k ∧ InA p xs) ∧ ∀ r ∈ rows, dotF r c xs % p = 0 := by
 unfold solS
 rw [List.mem_filter, b3P, List.all_eq_true]
 simp only [decide_eq_true_eq]
theorem a5Y (p : Int) (c k : Nat) (rows : List (List Int)) : (solS p c k rows).Nodup := (b3O _ _).filter _
noncomputable def clr (p : Int) (c : Nat) (row first : List Int) : List Int := List.zipWith (fun here there => (here * first.getD c 0 - there * row.getD c 0) % p) row first
theorem b7a {p : Int} {c n : Nat} {row first : List Int} (h1 : row.length = n) (h2 : first.length = n) (j : Nat) : (clr p c row first).getD j 0 = (row.getD j 0 * first.getD c 0 - first.getD j 0 * row.getD c 0) % p := by
 unfold clr
 by_cases h : j < n
 ·rw [List.getD_eq_getElem?_getD, List.getElem?_zipWith, List.getElem?_eq_getElem (by lia : j < row.length), List.getElem?_eq_getElem (by lia : j < first.length)]
  rw [List.getD_eq_getElem?_getD (l := row) (i := j), List.getD_eq_getElem?_getD (l := first) (i := j), List.getElem?_eq_getElem (by lia : j < row.length), List.getElem?_eq_getElem (by lia : j < first.length)]
  rfl
 ·rw [List.getD_eq_getElem?_getD, List.getElem?_zipWith, List.getElem?_eq_none (by lia : row.length ≤ j)]
  rw [List.getD_eq_getElem?_getD (l := row) (i := j), List.getD_eq_getElem?_getD (l := first) (i := j), List.getElem?_eq_none (by lia : row.length ≤ j), List.getElem?_eq_none (by lia : first.length ≤ j)]
  simp
theorem b3G {p : Int} {c n : Nat} {row first : List Int} (h1 : row.length = n) (h2 : first.length = n) : ∀ (xs : List Int) (d : Nat), dotF (clr p c row first) d xs % p = (first.getD c 0 * dotF row d xs - row.getD c 0 * dotF first d xs) % p
 | [], d => by
   show (0 : Int) % p = (first.getD c 0 * 0 - row.getD c 0 * 0) % p
   rw [Int.mul_zero, Int.mul_zero]; rfl
 | x :: xs, d => by
   have ih := b3G (p := p) (c := c) h1 h2 xs (d + 1)
   show ((clr p c row first).getD d 0 * x + dotF (clr p c row first) (d + 1) xs) % p = (first.getD c 0 * (row.getD d 0 * x + dotF row (d + 1) xs) - row.getD c 0 * (first.getD d 0 * x + dotF first (d + 1) xs)) % p
   rw [Int.add_emod, ih, b7a h1 h2, ← Int.add_emod, Int.add_emod, Int.mul_emod, Int.emod_emod, ← Int.mul_emod, ← Int.add_emod]
   congr 1
   grind
theorem b0A {α : Type} {l r : List α} (hl : l.Nodup) (hr : r.Nodup) (h : ∀ x, x ∈ l ↔ x ∈ r) : l.length = r.length := Nat.le_antisymm (List.Nodup.length_le_of_subset hl fun x hx => (h x).mp hx) (List.Nodup.length_le_of_subset hr fun x hx => (h x).mpr hx)
theorem b0E {S : List (List Int)} : ∀ R : List Int, (R.flatMap fun x => S.map (x :: ·)).length = R.length * S.length
 | [] => by rw [List.length_nil, Nat.zero_mul]; rfl
 | x :: R => by rw [List.flatMap_cons, List.length_append, List.length_map, b0E R, List.length_cons, Nat.succ_mul, Nat.add_comm]
theorem b2u {S : List (List Int)} (hS : S.Nodup) : ∀ {R : List Int}, R.Nodup → (R.flatMap fun x => S.map (x :: ·)).Nodup
 | [], _ => .nil
 | x :: R, h => by
   obtain ⟨h1, h2⟩ := List.nodup_cons.mp h
   rw [List.flatMap_cons]
   refine List.nodup_append.mpr ⟨List.pairwise_map.mpr (hS.imp fun h z => h (by injection z)), b2u hS h2, fun a ha b hb z => ?_⟩
   obtain ⟨u, _, rfl⟩ := List.mem_map.mp ha
   obtain ⟨y, hy, hb⟩ := List.mem_flatMap.mp hb
   obtain ⟨v, _, e⟩ := List.mem_map.mp hb
   rw [← z] at e
   injection e with e1 _
   rw [e1] at hy
   exact h1 hy
theorem a4h {p : Int} {c k : Nat} {rows : List (List Int)} {x : Int} {xs : List Int} : x :: xs ∈ solS p c (k + 1) rows ↔ InM p x ∧ (xs.length = k ∧ InA p xs) ∧ ∀ r ∈ rows, (r.getD c 0 * x + dotF r (c + 1) xs) % p = 0 := by
 rw [a3G]
 constructor
 ·rintro ⟨⟨h1, h2⟩, h3⟩
  exact ⟨h2 x (.head _), ⟨by rw [List.length_cons] at h1; lia, fun y hy => h2 y (.tail _ hy)⟩, h3⟩
 ·rintro ⟨h1, ⟨h2, h3⟩, h4⟩
  refine ⟨⟨by rw [List.length_cons, h2], fun y hy => ?_⟩, h4⟩
  rcases List.mem_cons.mp hy with z | z
  ·rw [z]; exact h1
  ·exact h3 y z
theorem b0y {p : Int} {c k : Nat} {rows : List (List Int)} {xs : List Int} (h : xs ∈ solS p c (k + 1) rows) : ∃ x ys, xs = x :: ys := by
 cases xs with
 | nil => have := (a3G.mp h).1.1; simp at this
 | cons x ys => exact ⟨x, ys, rfl⟩
theorem b4c {p : Int} {c k : Nat} {rows : List (List Int)} (h : ∀ r ∈ rows, r.getD c 0 % p = 0) : (solS p c (k + 1) rows).length = p.toNat * (solS p (c + 1) k rows).length := by
 have e := b0E (S := solS p (c + 1) k rows) (a0l p)
 rw [a0p] at e
 rw [← e]
 refine b0A (a5Y _ _ _ _) (b2u (a5Y _ _ _ _) (a4V p)) fun xs => ?_
 have hm : ∀ r ∈ rows, ∀ x d : Int, (r.getD c 0 * x + d) % p = d % p := fun r hr x d => by
  rw [Int.add_emod, Int.mul_emod, h r hr, Int.zero_mul, Int.zero_emod, Int.zero_add, Int.emod_emod]
 constructor
 ·intro hx
  obtain ⟨x, ys, rfl⟩ := b0y hx
  obtain ⟨h1, h2, h3⟩ := a4h.mp hx
  exact List.mem_flatMap.mpr ⟨x, a0h.mpr h1, List.mem_map.mpr ⟨ys, a3G.mpr ⟨h2, fun r hr => by rw [← hm r hr x]; exact h3 r hr⟩, rfl⟩⟩
 ·intro hx
  obtain ⟨x, h1, hx⟩ := List.mem_flatMap.mp hx
  obtain ⟨ys, h2, rfl⟩ := List.mem_map.mp hx
  obtain ⟨h3, h4⟩ := a3G.mp h2
  exact a4h.mpr ⟨a0h.mp h1, h3, fun r hr => by rw [hm r hr x]; exact h4 r hr⟩
theorem b5M {p : Int} (hp : a6Q p) {c k n : Nat} {rows : List (List Int)} {f : List Int} (hf : f ∈ rows) (hn : ∀ r ∈ rows, r.length = n) (h : f.getD c 0 % p ≠ 0) : (solS p c (k + 1) rows).length = (solS p (c + 1) k (rows.map fun r => clr p c r f)).length := by
 have e1 : ∀ r ∈ rows, ∀ xs, dotF (clr p c r f) (c + 1) xs % p = (f.getD c 0 * dotF r (c + 1) xs - r.getD c 0 * dotF f (c + 1) xs) % p := fun r hr xs => b3G (hn r hr) (hn f hf) xs (c + 1)
 refine Nat.le_antisymm ?_ ?_
 ·refine a6w (a5Y _ _ _ _) List.tail (fun xs hx => ?_) fun xs hx ys hy e => ?_
  ·obtain ⟨x, ys, rfl⟩ := b0y hx
   obtain ⟨h1, h2, h3⟩ := a4h.mp hx
   refine a3G.mpr ⟨h2, fun q hq => ?_⟩
   obtain ⟨r, hr, rfl⟩ := List.mem_map.mp hq
   show dotF (clr p c r f) (c + 1) ys % p = 0
   rw [e1 r hr ys]
   have a1 := h3 r hr
   have a2 := h3 f hf
   have e2 : f.getD c 0 * dotF r (c + 1) ys - r.getD c 0 * dotF f (c + 1) ys = f.getD c 0 * (r.getD c 0 * x + dotF r (c + 1) ys) - r.getD c 0 * (f.getD c 0 * x + dotF f (c + 1) ys) := by grind
   rw [e2, Int.sub_emod, Int.mul_emod, a1, Int.mul_emod (r.getD c 0), a2]
   simp
  ·obtain ⟨x, us, rfl⟩ := b0y hx
   obtain ⟨y, vs, rfl⟩ := b0y hy
   obtain ⟨h1, h2, h3⟩ := a4h.mp hx
   obtain ⟨g1, g2, g3⟩ := a4h.mp hy
   have e : us = vs := e
   subst e
   have a := a8f ((h3 f hf).trans (g3 f hf).symm)
   have e2 : f.getD c 0 * x + dotF f (c + 1) us - (f.getD c 0 * y + dotF f (c + 1) us) = f.getD c 0 * (x - y) := by grind
   rw [e2] at a
   rw [a4W h1 g1 (a7B (a3T hp h a))]
 ·have key : ∀ ys ∈ solS p (c + 1) k (rows.map fun r => clr p c r f), ∃ x, x :: ys ∈ solS p c (k + 1) rows := fun ys hy => by
   obtain ⟨h2, h3⟩ := a3G.mp hy
   obtain ⟨x, hx, e⟩ := b1s hp h (-dotF f (c + 1) ys)
   refine ⟨x, a4h.mpr ⟨hx, h2, fun r hr => ?_⟩⟩
   have a := h3 _ (List.mem_map.mpr ⟨r, hr, rfl⟩)
   rw [e1 r hr ys] at a
   refine a3T hp h (a := f.getD c 0) ?_
   have e2 : f.getD c 0 * (r.getD c 0 * x + dotF r (c + 1) ys) = (f.getD c 0 * dotF r (c + 1) ys - r.getD c 0 * dotF f (c + 1) ys) + r.getD c 0 * (f.getD c 0 * x - -dotF f (c + 1) ys) := by grind
   rw [e2, Int.add_emod, a, Int.mul_emod, e]
   simp
  have cho : ∀ ys : List Int, ∃ x : Int, ys ∈ solS p (c + 1) k (rows.map fun r => clr p c r f) → x :: ys ∈ solS p c (k + 1) rows := fun ys => by
   by_cases hy : ys ∈ solS p (c + 1) k (rows.map fun r => clr p c r f)
   ·obtain ⟨x, hx⟩ := key ys hy
    exact ⟨x, fun _ => hx⟩
   ·exact ⟨0, fun z => absurd z hy⟩
  exact a6w (a5Y _ _ _ _) (fun ys => (cho ys).choose :: ys) (fun ys hy => (cho ys).choose_spec hy) fun x hx y hy e => by injection e
noncomputable def rkL (p : Int) : Nat → Nat → List (List Int) → Nat
 | 0, _, _ => 0
 | k + 1, c, rows => match rows.filter (fun r => decide (r.getD c 0 % p ≠ 0)) with
   | [] => rkL p k (c + 1) rows
   | f :: _ => rkL p k (c + 1) (rows.map fun r => clr p c r f) + 1
theorem a5p {p : Int} (hp : a6Q p) {n : Nat} : ∀ (k c : Nat) (rows : List (List Int)), (∀ r ∈ rows, r.length = n) → rkL p k c rows ≤ k ∧ (solS p c k rows).length * p.toNat ^ rkL p k c rows = p.toNat ^ k
 | 0, c, rows, _ => by
   refine ⟨Nat.le_refl _, ?_⟩
   have : solS p c 0 rows = [[]] := by
    unfold solS alR
    rw [List.filter_cons, if_pos (by
     rw [List.all_eq_true]
     intro r _
     exact decide_eq_true (by show (0 : Int) % p = 0; exact Int.zero_emod p))]
    rfl
   rw [this]; rfl
 | k + 1, c, rows, hn => by
   unfold rkL
   split
   ·rename_i e
    have hz : ∀ r ∈ rows, r.getD c 0 % p = 0 := fun r hr => by
     have := List.filter_eq_nil_iff.mp e r hr
     simpa using this
    obtain ⟨h1, h2⟩ := a5p hp k (c + 1) rows hn
    refine ⟨by lia, ?_⟩
    rw [b4c hz, Nat.mul_assoc, h2, Nat.pow_succ, Nat.mul_comm]
   ·rename_i f t e
    have hf : f ∈ rows.filter fun r => decide (r.getD c 0 % p ≠ 0) := by rw [e]; exact .head _
    obtain ⟨f1, f2⟩ := List.mem_filter.mp hf
    have hn2 : ∀ r ∈ rows.map (fun r => clr p c r f), r.length = n := fun r hr => by
     obtain ⟨q, hq, rfl⟩ := List.mem_map.mp hr
     unfold clr
     rw [List.length_zipWith, hn q hq, hn f f1, Nat.min_self]
    obtain ⟨h1, h2⟩ := a5p hp k (c + 1) _ hn2
    refine ⟨by lia, ?_⟩
    rw [b5M hp f1 hn (by simpa using f2), Nat.pow_succ, ← Nat.mul_assoc, h2, Nat.pow_succ]
noncomputable def linT (p : Int) : List (List Int) := (a0l p).map fun a => (a0l p).map fun b => (2 * b - a) % p
theorem a8g {p : Int} : (linT p).length = p.toNat := by unfold linT; rw [List.length_map, a0p]
theorem range0_get {p a : Int} (h : InM p a) : (a0l p)[a.toNat]? = some a := by
 unfold a0l
 rw [List.getElem?_map, List.getElem?_range (by obtain ⟨h1, h2⟩ := h; lia)]
 show some ((a.toNat : Nat) : Int) = some a
 rw [show ((a.toNat : Nat) : Int) = a by obtain ⟨h1, h2⟩ := h; lia]
theorem a5E {p a b : Int} (ha : InM p a) (hb : InM p b) : g2 (linT p) a b = (2 * b - a) % p := by
 have e : (linT p).getD a.toNat [] = (a0l p).map fun b => (2 * b - a) % p := by
  unfold linT
  rw [List.getD_eq_getElem?_getD, List.getElem?_map, range0_get ha]; rfl
 unfold g2
 rw [e]
 unfold gI
 rw [List.getD_eq_getElem?_getD, List.getElem?_map, range0_get hb]; rfl
theorem b0J {p : Int} (hp : 1 ≤ p) : ((linT p).length : Int) = p := by rw [a8g]; lia
theorem a7g {p x : Int} (hp : 1 ≤ p) : InM p (x % p) := ⟨Int.emod_nonneg _ (by lia), Int.emod_lt_of_pos _ (by lia)⟩
theorem b0b {p : Int} (hp : 1 ≤ p) : TabQ (linT p) := by
 have hm := b0J hp
 refine ⟨by rw [a8g]; lia, fun r hr => ?_, fun c hc => ?_, fun c hc => ?_, fun a b c ha hb hc => ?_⟩
 ·obtain ⟨a, _, rfl⟩ := List.mem_map.mp hr
  rw [List.length_map, a0p, a8g]
 ·rw [hm] at hc
  rw [a5E hc hc, show 2 * c - c = c by lia]
  exact Int.emod_eq_of_lt hc.1 hc.2
 ·rw [hm] at hc ⊢
  have e : (linT p).map (fun r => gI r c) = (a0l p).map fun a => (2 * c - a) % p := by
   unfold linT
   rw [List.map_map]
   refine List.map_congr_left fun a _ => ?_
   show gI ((a0l p).map fun b => (2 * b - a) % p) c = _
   unfold gI
   rw [List.getD_eq_getElem?_getD, List.getElem?_map, range0_get hc]; rfl
  rw [e]
  refine a3J _ _ ?_ (fun y hy => ?_) (by rw [List.length_map]; exact Nat.le_refl _)
  ·refine List.pairwise_map.mpr (List.Pairwise.imp_of_mem (fun hx hy h z => h ?_) (a4V p))
   refine a4W (a0h.mp hx) (a0h.mp hy) ?_
   have a := a8f z
   have a2 := Int.emod_eq_zero_of_dvd (Int.dvd_neg.mpr (Int.dvd_of_emod_eq_zero a))
   exact a7B (by rwa [show ∀ u v : Int, -(2 * c - u - (2 * c - v)) = u - v from fun u v => by lia] at a2)
  ·obtain ⟨a, _, rfl⟩ := List.mem_map.mp hy
   exact a0h.mpr (a7g hp)
 ·rw [hm] at ha hb hc
  have key : ∀ x y : Int, (2 * (x % p) - y % p) % p = (2 * x - y) % p := fun x y => by
   rw [Int.sub_emod, Int.mul_emod, Int.emod_emod, Int.emod_emod, ← Int.mul_emod, ← Int.sub_emod]
  have key2 : ∀ x y : Int, (2 * x - y % p) % p = (2 * x - y) % p := fun x y => by
   rw [Int.sub_emod, Int.emod_emod, ← Int.sub_emod]
  rw [a5E ha hb, a5E ha hc, a5E hb hc, a5E (a7g hp) hc, a5E (a7g hp) (a7g hp), key, key2]
  congr 1
  lia
noncomputable def tw2 (a b : List Int) : List Int := List.zipWith (fun x y => 2 * x - y) a b
theorem b5F {a b : List Int} (h : a.length = b.length) (j : Nat) : (tw2 a b).getD j 0 = 2 * a.getD j 0 - b.getD j 0 := by
 unfold tw2
 rw [List.getD_eq_getElem?_getD, List.getElem?_zipWith, List.getD_eq_getElem?_getD, List.getD_eq_getElem?_getD]
 by_cases c : j < a.length
 ·rw [List.getElem?_eq_getElem c, List.getElem?_eq_getElem (by lia : j < b.length)]; rfl
 ·rw [List.getElem?_eq_none (by lia : a.length ≤ j), List.getElem?_eq_none (by lia : b.length ≤ j)]; simp
theorem b0g {a b : List Int} (h : a.length = b.length) : ∀ (xs : List Int) (c : Nat), dotF (tw2 a b) c xs = 2 * dotF a c xs - dotF b c xs
 | [], c => rfl
 | x :: xs, c => by
   show (tw2 a b).getD c 0 * x + dotF (tw2 a b) (c + 1) xs = 2 * (a.getD c 0 * x + dotF a (c + 1) xs) - (b.getD c 0 * x + dotF b (c + 1) xs)
   rw [b0g h xs (c + 1), b5F h]
   grind
noncomputable def sh1 (rows : List (List Int)) (l : Int) : List (List Int) :=
 let a := rows.getD (l.natAbs - 1) []
 let b := rows.getD l.natAbs []
 if l > 0 then (rows.set (l.natAbs - 1) b).set l.natAbs (tw2 b a) else (rows.set (l.natAbs - 1) (tw2 a b)).set l.natAbs a
noncomputable def shL (rows : List (List Int)) (ws : List Int) : List (List Int) := ws.foldl sh1 rows
noncomputable def unR (n : Nat) : List (List Int) := (List.range n).map fun i => (List.range n).map fun j => if i = j then (1 : Int) else 0
noncomputable def Tell (p : Int) (n : Nat) (x : List Int) (rows : List (List Int)) (cs : List Int) : Prop := rows.length = n ∧ cs.length = n ∧ InA p cs ∧ ∀ i, i < n → (rows.getD i []).length = n ∧ dotF (rows.getD i []) 0 x % p = cs.getD i 0
theorem a6z {α : Type} {xs : List α} {k j : Nat} {u v z : α} (hk : k + 1 < xs.length) : ((xs.set k u).set (k + 1) v).getD j z = if j = k + 1 then v else if j = k then u else xs.getD j z := by
 rw [List.getD_eq_getElem?_getD, List.getD_eq_getElem?_getD]
 by_cases c : j = k + 1
 ·subst c
  rw [if_pos rfl, List.getElem?_set_self (by rw [List.length_set]; exact hk)]; rfl
 ·rw [if_neg c, List.getElem?_set_ne (fun z => c z.symm)]
  by_cases c2 : j = k
  ·subst c2
   rw [if_pos rfl, List.getElem?_set_self (by lia)]; rfl
  ·rw [if_neg c2, List.getElem?_set_ne (fun z => c2 z.symm)]
theorem b8x {p a b : Int} (hp : 1 ≤ p) (ha : InM p a) (hb : InM p b) : iv (linT p) b a = (2 * a - b) % p := by
 have h := b0b hp
 have hm := b0J hp
 have e : g2 (linT p) ((2 * a - b) % p) a = b := by
  rw [a5E (a7g hp) ha, Int.sub_emod, Int.emod_emod, ← Int.sub_emod, show 2 * a - (2 * a - b) = b by lia]
  exact Int.emod_eq_of_lt hb.1 hb.2
 have := h.iv_g (a := (2 * a - b) % p) (c := a) (by rw [hm]; exact a7g hp) (by rw [hm]; exact ha)
 rwa [e] at this
theorem b2c {p : Int} (hp : 1 ≤ p) {n : Nat} {x : List Int} {rows : List (List Int)} {cs : List Int} {l : Int} (h : Tell p n x rows cs) (hl : LetOK n l) : Tell p n x (sh1 rows l) (dn1 (linT p) cs l) := by
 obtain ⟨h1, h2, h3, h4⟩ := h
 obtain ⟨k, hk⟩ : ∃ k : Nat, l.natAbs = k + 1 := ⟨l.natAbs - 1, by obtain ⟨a, b⟩ := hl; lia⟩
 have hkn : k + 1 < n := by obtain ⟨a, b⟩ := hl; lia
 have hm := b0J hp
 obtain ⟨a1, a2⟩ := h4 k (by lia)
 obtain ⟨b1, b2⟩ := h4 (k + 1) hkn
 have ma : InM p (cs.getD k 0) := h3 _ (by rw [List.getD_eq_getElem?_getD, List.getElem?_eq_getElem (by lia : k < cs.length)]; exact List.getElem_mem _)
 have mb : InM p (cs.getD (k + 1) 0) := h3 _ (by rw [List.getD_eq_getElem?_getD, List.getElem?_eq_getElem (by lia : k + 1 < cs.length)]; exact List.getElem_mem _)
 have hin : InA p (dn1 (linT p) cs l) := by
  have := b3x (b0b hp) (cs := cs) (l := l) (by rw [h2]; exact hl) (by rw [hm]; exact h3)
  rwa [hm] at this
 have hc : ∀ u v : List Int, (2 * dotF u 0 x - dotF v 0 x) % p = (2 * (dotF u 0 x % p) - dotF v 0 x % p) % p := fun u v => by
  rw [Int.sub_emod, Int.mul_emod, Int.sub_emod (2 * (dotF u 0 x % p)), Int.mul_emod 2 (dotF u 0 x % p), Int.emod_emod, Int.emod_emod]
 refine ⟨?_, by rw [a3x]; exact h2, hin, fun i hi => ?_⟩
 ·unfold sh1
  dsimp only
  split
  ·rw [List.length_set, List.length_set]; exact h1
  ·rw [List.length_set, List.length_set]; exact h1
 ·have ed : (dn1 (linT p) cs l).getD i 0 = if i = k + 1 then pr2 (linT p) l (cs.getD k 0) (cs.getD (k + 1) 0) else if i = k then pr1 (linT p) l (cs.getD k 0) (cs.getD (k + 1) 0) else cs.getD i 0 := by
   unfold dn1
   rw [hk, Nat.add_sub_cancel, a6z (by lia)]
  rw [ed]
  unfold sh1 pr1 pr2
  dsimp only
  rw [hk, Nat.add_sub_cancel]
  by_cases c : l > 0
  ·rw [if_pos c, if_pos c, if_pos c, a6z (by lia)]
   by_cases c1 : i = k + 1
   ·rw [if_pos c1, if_pos c1]
    refine ⟨by unfold tw2; rw [List.length_zipWith, a1, b1, Nat.min_self], ?_⟩
    rw [b0g (b1.trans a1.symm), hc, a2, b2, a5E ma mb]
   ·rw [if_neg c1, if_neg c1]
    by_cases c2 : i = k
    ·rw [if_pos c2, if_pos c2]; exact ⟨b1, b2⟩
    ·rw [if_neg c2, if_neg c2]; exact h4 i hi
  ·rw [if_neg c, if_neg c, if_neg c, a6z (by lia)]
   by_cases c1 : i = k + 1
   ·rw [if_pos c1, if_pos c1]; exact ⟨a1, a2⟩
   ·rw [if_neg c1, if_neg c1]
    by_cases c2 : i = k
    ·rw [if_pos c2, if_pos c2]
     refine ⟨by unfold tw2; rw [List.length_zipWith, a1, b1, Nat.min_self], ?_⟩
     rw [b0g (a1.trans b1.symm), hc, a2, b2, b8x hp ma mb]
    ·rw [if_neg c2, if_neg c2]; exact h4 i hi
theorem a5X {p : Int} (hp : 1 ≤ p) {n : Nat} {x : List Int} : ∀ {ws : List Int} {rows : List (List Int)} {cs : List Int}, Tell p n x rows cs → WordOK n ws → Tell p n x (shL rows ws) (dn (linT p) ws cs)
 | [], _, _, h, _ => h
 | l :: w, rows, cs, h, hw => a5X (ws := w) hp (b2c hp h (hw l (.head _))) fun y hy => hw y (.tail _ hy)
theorem b0S (i : Nat) : ∀ (xs : List Int) (r : List Int) (c : Nat), (∀ j, r.getD (c + j) 0 = if j < xs.length ∧ i = c + j then 1 else 0) → dotF r c xs = if c ≤ i then xs.getD (i - c) 0 else 0
 | [], r, c, _ => by
   show (0 : Int) = _
   split <;> rfl
 | x :: xs, r, c, h => by
   have h0 := h 0
   rw [Nat.add_zero] at h0
   have ih := b0S i xs r (c + 1) (fun j => by
    have := h (j + 1)
    rw [show c + (j + 1) = c + 1 + j by lia] at this
    rw [this]
    by_cases e : j < xs.length ∧ i = c + 1 + j
    ·rw [if_pos e, if_pos ⟨by rw [List.length_cons]; lia, e.2⟩]
    ·rw [if_neg e, if_neg (fun z => e ⟨by have := z.1; rw [List.length_cons] at this; lia, z.2⟩)])
   show r.getD c 0 * x + dotF r (c + 1) xs = _
   rw [ih, h0]
   by_cases e : i = c
   ·subst e
    rw [if_pos ⟨by rw [List.length_cons]; lia, rfl⟩, if_neg (by lia), if_pos (Nat.le_refl _), Nat.sub_self, Int.one_mul, Int.add_zero]; rfl
   ·rw [if_neg (fun z => e z.2), Int.zero_mul, Int.zero_add]
    by_cases e2 : c ≤ i
    ·rw [if_pos (by lia), if_pos e2, show i - c = i - (c + 1) + 1 by lia]; rfl
    ·rw [if_neg (by lia), if_neg e2]
theorem b3v (i : Nat) : ∀ (xs : List Int) (r : List Int) (c : Nat), i < r.length → dotF (r.set i (r.getD i 0 - 1)) c xs = dotF r c xs - if c ≤ i then xs.getD (i - c) 0 else 0
 | [], r, c, _ => by
   show (0 : Int) = 0 - _
   split <;> rfl
 | x :: xs, r, c, h => by
   have ih := b3v i xs r (c + 1) h
   have eg : (r.set i (r.getD i 0 - 1)).getD c 0 = if c = i then r.getD i 0 - 1 else r.getD c 0 := by
    rw [List.getD_eq_getElem?_getD]
    by_cases e : c = i
    ·subst e
     rw [if_pos rfl, List.getElem?_set_self h]; rfl
    ·rw [if_neg e, List.getElem?_set_ne (fun z => e z.symm), ← List.getD_eq_getElem?_getD]
   show (r.set i (r.getD i 0 - 1)).getD c 0 * x + dotF (r.set i (r.getD i 0 - 1)) (c + 1) xs = r.getD c 0 * x + dotF r (c + 1) xs - _
   rw [ih, eg]
   by_cases e : c = i
   ·subst e
    rw [if_pos rfl, if_neg (by lia), if_pos (Nat.le_refl _), Nat.sub_self]
    show (r.getD c 0 - 1) * x + (dotF r (c + 1) xs - 0) = r.getD c 0 * x + dotF r (c + 1) xs - x
    rw [Int.sub_mul]; lia
   ·rw [if_neg e]
    by_cases e2 : c ≤ i
    ·rw [if_pos (by lia), if_pos e2, show i - c = i - (c + 1) + 1 by lia]
     show r.getD c 0 * x + (dotF r (c + 1) xs - xs.getD (i - (c + 1)) 0) = r.getD c 0 * x + dotF r (c + 1) xs - xs.getD (i - (c + 1)) 0
     lia
    ·rw [if_neg (by lia), if_neg e2]; lia
noncomputable def minU (n : Nat) (rows : List (List Int)) : List (List Int) := (List.range n).map fun i => (rows.getD i []).set i ((rows.getD i []).getD i 0 - 1)
theorem a7a {p : Int} {n : Nat} {x : List Int} (h : x.length = n) (hA : InA p x) : Tell p n x (unR n) x := by
 refine ⟨by unfold unR; rw [List.length_map, List.length_range], h, hA, fun i hi => ?_⟩
 have e : (unR n).getD i [] = (List.range n).map fun j => if i = j then (1 : Int) else 0 := by
  unfold unR
  rw [List.getD_eq_getElem?_getD, List.getElem?_map, List.getElem?_range hi]; rfl
 rw [e]
 refine ⟨by rw [List.length_map, List.length_range], ?_⟩
 rw [b0S i x _ 0 fun j => by
  rw [Nat.zero_add, List.getD_eq_getElem?_getD, List.getElem?_map, h]
  by_cases c : j < n
  ·rw [List.getElem?_range c]
   show (if i = j then (1 : Int) else 0) = _
   by_cases c2 : i = j
   ·rw [if_pos c2, if_pos ⟨c, c2⟩]
   ·rw [if_neg c2, if_neg (fun z => c2 z.2)]
  ·rw [List.getElem?_eq_none (by rw [List.length_range]; lia), if_neg (fun z => c z.1)]; rfl]
 rw [if_pos (Nat.zero_le _), Nat.sub_zero]
 have hm : x.getD i 0 ∈ x := by rw [List.getD_eq_getElem?_getD, List.getElem?_eq_getElem (by lia : i < x.length)]; exact List.getElem_mem _
 obtain ⟨a, b⟩ := hA _ hm
 exact Int.emod_eq_of_lt a b
theorem b5N {p : Int} (hp : 1 ≤ p) {n : Nat} {ws : List Int} (hw : WordOK n ws) : (solS p 0 n (minU n (shL (unR n) ws))).length = (fixR (linT p) ws n).length := by
 refine b0A (a5Y _ _ _ _) (a8m _ _ _) fun x => ?_
 rw [a3G, a3o, b0J hp]
 refine and_congr_right fun hx => ?_
 obtain ⟨h1, h2, h3, h4⟩ := a5X hp (a7a hx.1 hx.2) hw
 have key : ∀ i, i < n → dotF (((shL (unR n) ws).getD i []).set i (((shL (unR n) ws).getD i []).getD i 0 - 1)) 0 x % p = ((dn (linT p) ws x).getD i 0 - x.getD i 0) % p := fun i hi => by
  obtain ⟨a, b⟩ := h4 i hi
  rw [b3v i x _ 0 (by lia), if_pos (Nat.zero_le _), Nat.sub_zero, ← b]
  generalize dotF ((shL (unR n) ws).getD i []) 0 x = D
  generalize x.getD i 0 = y
  rw [Int.sub_emod (D % p) y, Int.emod_emod, ← Int.sub_emod]
 have inx : ∀ {y : List Int}, y.length = n → InA p y → ∀ i, i < n → InM p (y.getD i 0) := fun {y} hl hA i hi => hA _ (by rw [List.getD_eq_getElem?_getD, List.getElem?_eq_getElem (by lia : i < y.length)]; exact List.getElem_mem _)
 constructor
 ·intro h
  refine List.ext_getElem (h2.trans hx.1.symm) fun i i1 i2 => ?_
  have hi : i < n := by lia
  have a := h _ (List.mem_map.mpr ⟨i, List.mem_range.mpr hi, rfl⟩)
  rw [key i hi] at a
  have e := a4W (inx h2 h3 i hi) (inx hx.1 hx.2 i hi) (a7B a)
  rw [List.getD_eq_getElem?_getD, List.getD_eq_getElem?_getD, List.getElem?_eq_getElem i1, List.getElem?_eq_getElem i2] at e
  exact e
 ·intro h r hr
  obtain ⟨i, hi, rfl⟩ := List.mem_map.mp hr
  rw [key i (List.mem_range.mp hi), h, Int.sub_self, Int.zero_emod]
noncomputable def b0d (p : Int) (n : Nat) (ws : List Int) : Nat := n - rkL p n 0 (minU n (shL (unR n) ws))
theorem b4B {n : Nat} {rows : List (List Int)} (h : ∀ i, i < n → (rows.getD i []).length = n) : ∀ r ∈ minU n rows, r.length = n := fun r hr => by
 obtain ⟨i, hi, rfl⟩ := List.mem_map.mp hr
 rw [List.length_set]
 exact h i (List.mem_range.mp hi)
theorem a7o {p : Int} (hp : a6Q p) {n : Nat} {ws : List Int} (hw : WordOK n ws) : (fixR (linT p) ws n).length = p.toNat ^ b0d p n ws := by
 have p1 : 1 ≤ p := by have := hp.1; lia
 have ht := a5X p1 (a7a (p := p) (n := n) (x := List.replicate n 0) (List.length_replicate ..) (fun c hc => by rw [List.eq_of_mem_replicate hc]; exact ⟨Int.le_refl _, by lia⟩)) hw
 obtain ⟨h1, h2⟩ := a5p hp (n := n) n 0 (minU n (shL (unR n) ws)) (b4B fun i hi => (ht.2.2.2 i hi).1)
 rw [b5N p1 hw] at h2
 unfold b0d
 generalize rkL p n 0 (minU n (shL (unR n) ws)) = k at h1 h2
 have e : p.toNat ^ n = p.toNat ^ (n - k) * p.toNat ^ k := by rw [← Nat.pow_add, show n - k + k = n by lia]
 rw [e] at h2
 exact Nat.eq_of_mul_eq_mul_right (Nat.pow_pos (by lia)) h2
theorem b6P {p : Int} (hp : a6Q p) {n m : Nat} {ws vs : List Int} (hw : WordOK n ws) (hv : WordOK m vs) (h : (fixR (linT p) ws n).length = (fixR (linT p) vs m).length) : b0d p n ws = b0d p m vs := by
 rw [a7o hp hw, a7o hp hv] at h
 have h2 : 1 < p.toNat := by have := hp.1; lia
 rcases Nat.lt_trichotomy (b0d p n ws) (b0d p m vs) with z | z | z
 ·exact absurd h (Nat.ne_of_lt (Nat.pow_lt_pow_right h2 z))
 ·exact z
 ·exact absurd h.symm (Nat.ne_of_lt (Nat.pow_lt_pow_right h2 z))
noncomputable def a1g (M : MH) (as : List Addr) (ls : List (List Int)) : Prop := as.length = ls.length ∧ ∀ (i : Nat) (a : Addr) (l : List Int), as[i]? = some a → ls[i]? = some l → M a = some (.lst (l.map .int))
theorem a1g.sub {M M' : MH} {as : List Addr} {ls : List (List Int)} (h : a1g M as ls) (s : Sub M M') : a1g M' as ls := ⟨h.1, fun i a l h1 h2 => s _ _ (h.2 i a l h1 h2)⟩
theorem a1g.nil {M : MH} : a1g M [] [] := ⟨rfl, fun i a l z => by simp at z⟩
theorem a1g.snoc {M : MH} {as : List Addr} {ls : List (List Int)} {a : Addr} {l : List Int} (h : a1g M as ls) (ha : M a = some (.lst (l.map .int))) : a1g M (as ++ [a]) (ls ++ [l]) := by
 refine ⟨by rw [List.length_append, List.length_append, h.1]; rfl, fun i b k h1 h2 => ?_⟩
 by_cases z : i < as.length
 ·rw [List.getElem?_append_left z] at h1
  rw [List.getElem?_append_left (by rw [← h.1]; exact z)] at h2
  exact h.2 i b k h1 h2
 ·rw [List.getElem?_append_right (by lia)] at h1
  rw [List.getElem?_append_right (by rw [← h.1]; lia), ← h.1] at h2
  obtain ⟨l1, e1⟩ := List.getElem?_eq_some_iff.mp h1
  have e : i - as.length = 0 := by rw [List.length_singleton] at l1; lia
  rw [e] at h1 h2
  obtain rfl := Option.some.inj h1
  obtain rfl := Option.some.inj h2
  exact ha
theorem a1g.get {M : MH} {as : List Addr} {ls : List (List Int)} {i : Nat} {a : Addr} (h : a1g M as ls) (ha : as[i]? = some a) : ∃ l, ls[i]? = some l ∧ M a = some (.lst (l.map .int)) := by
 have hi : i < ls.length := by rw [← h.1]; exact (List.getElem?_eq_some_iff.mp ha).1
 exact ⟨ls[i], List.getElem?_eq_getElem hi, h.2 i a _ ha (List.getElem?_eq_getElem hi)⟩
theorem a1g.set {M : MH} {as : List Addr} {ls : List (List Int)} {k : Nat} {x : Addr} {l : List Int} (h : a1g M as ls) (hx : M x = some (.lst (l.map .int))) : a1g M (as.set k x) (ls.set k l) := by
 refine ⟨by rw [List.length_set, List.length_set]; exact h.1, fun i b m h1 h2 => ?_⟩
 rw [List.getElem?_set] at h1 h2
 by_cases z : k = i
 ·rw [if_pos z] at h1 h2
  split at h1
  ·split at h2
   ·obtain rfl := Option.some.inj h1
    obtain rfl := Option.some.inj h2
    exact hx
   ·cases h2
  ·cases h1
 ·rw [if_neg z] at h1 h2
  exact h.2 i b m h1 h2
theorem a1g.mem {M : MH} {as : List Addr} {ls : List (List Int)} {a : Addr} (h : a1g M as ls) (ha : a ∈ as) : ∃ l, l ∈ ls ∧ M a = some (.lst (l.map .int)) := by
 obtain ⟨i, hi⟩ := List.getElem?_of_mem ha
 obtain ⟨l, e1, e2⟩ := h.get hi
 exact ⟨l, List.mem_of_getElem? e1, e2⟩
theorem a1g.ne {M : MH} {as bs : List Addr} {ls : List (List Int)} {r : Addr} (h : a1g M as ls) (hr : M r = some (.lst (bs.map T.adr))) (hb : bs ≠ []) : r ∉ as := fun z => by
 obtain ⟨l, _, e⟩ := h.mem z
 rw [hr] at e
 cases bs with
 | nil => exact hb rfl
 | cons b bs => cases l with
   | nil => cases e
   | cons i l => injection e with e; injection e with e; injection e with e _; cases e
theorem a1g.fresh {M : MH} {as : List Addr} {ls : List (List Int)} {q : Addr} (h : a1g M as ls) (hq : M q = none) : q ∉ as := fun z => by
 obtain ⟨l, _, e⟩ := h.mem z
 rw [hq] at e; cases e
theorem a1g.upd {M : MH} {as : List Addr} {ls : List (List Int)} {r : Addr} {o : MO} (h : a1g M as ls) (hr : r ∉ as) : a1g (updM M r o) as ls := ⟨h.1, fun i a l h1 h2 => by
 rw [a0k (fun z => hr (by rw [← z]; exact List.mem_of_getElem? h1))]; exact h.2 i a l h1 h2⟩
theorem a1g.put {M : MH} {as : List Addr} {ls : List (List Int)} {k : Nat} {a : Addr} {l : List Int} (h : a1g M as ls) (nd : as.Nodup) (ha : as[k]? = some a) : a1g (updM M a (.lst (l.map .int))) as (ls.set k l) := by
 refine ⟨by rw [List.length_set]; exact h.1, fun i b m h1 h2 => ?_⟩
 rw [List.getElem?_set] at h2
 by_cases z : k = i
 ·subst z
  rw [ha] at h1
  obtain rfl := Option.some.inj h1
  rw [if_pos rfl] at h2
  split at h2
  ·obtain rfl := Option.some.inj h2
   exact a0d
  ·cases h2
 ·rw [if_neg z] at h2
  have hne : b ≠ a := fun e => by
   subst e
   obtain ⟨i1, i2⟩ := List.getElem?_eq_some_iff.mp h1
   obtain ⟨k1, k2⟩ := List.getElem?_eq_some_iff.mp ha
   exact z ((List.getElem_inj nd).mp (k2.trans i2.symm))
  rw [a0k hne]
  exact h.2 i b m h1 h2
theorem ndix {α : Type} {l : List α} : l.Nodup ↔ ∀ (i j : Nat) (a : α), l[i]? = some a → l[j]? = some a → i = j := by
 constructor
 ·intro nd i j a h1 h2
  obtain ⟨i1, i2⟩ := List.getElem?_eq_some_iff.mp h1
  obtain ⟨k1, k2⟩ := List.getElem?_eq_some_iff.mp h2
  exact (List.getElem_inj nd).mp (i2.trans k2.symm)
 ·intro h
  refine List.pairwise_iff_getElem.mpr fun i j hi hj hij e => ?_
  have := h i j l[i] (List.getElem?_eq_getElem hi) (by rw [List.getElem?_eq_getElem hj, e])
  lia
theorem a8O {α : Type} {l : List α} {k : Nat} {b q : α} (nd : l.Nodup) (hb : l[k + 1]? = some b) (hq : q ∉ l) : ((l.set k b).set (k + 1) q).Nodup := by
 have h1 := (List.getElem?_eq_some_iff.mp hb).1
 refine ndix.mpr fun i j a hi hj => ?_
 have key : ∀ i, ((l.set k b).set (k + 1) q)[i]? = if i = k + 1 then some q else if i = k then some b else l[i]? := fun i => by
  by_cases c : i = k + 1
  ·subst c; rw [if_pos rfl, List.getElem?_set_self (by rw [List.length_set]; exact h1)]
  ·rw [if_neg c, List.getElem?_set_ne (fun z => c z.symm)]
   by_cases c2 : i = k
   ·subst c2; rw [if_pos rfl, List.getElem?_set_self (by lia)]
   ·rw [if_neg c2, List.getElem?_set_ne (fun z => c2 z.symm)]
 have ix := ndix.mp nd
 rw [key] at hi hj
 have bne : ∀ i, l[i]? = some b → i = k + 1 := fun i e => ix i _ b e hb
 have qne : ∀ i, l[i]? ≠ some q := fun i e => hq (List.mem_of_getElem? e)
 have bq : b ≠ q := fun e => hq (by rw [← e]; exact List.mem_of_getElem? hb)
 by_cases c1 : i = k + 1
 ·rw [if_pos c1] at hi
  obtain rfl := Option.some.inj hi
  by_cases c2 : j = k + 1
  ·rw [c1, c2]
  ·rw [if_neg c2] at hj
   by_cases c3 : j = k
   ·rw [if_pos c3] at hj; exact absurd (Option.some.inj hj) bq
   ·rw [if_neg c3] at hj; exact absurd hj (qne j)
 ·rw [if_neg c1] at hi
  by_cases c2 : i = k
  ·rw [if_pos c2] at hi
   obtain rfl := Option.some.inj hi
   by_cases c3 : j = k + 1
   ·rw [if_pos c3] at hj; exact absurd (Option.some.inj hj).symm bq
   ·rw [if_neg c3] at hj
    by_cases c4 : j = k
    ·rw [c2, c4]
    ·rw [if_neg c4] at hj; exact absurd (bne j hj) c3
  ·rw [if_neg c2] at hi
   by_cases c3 : j = k + 1
   ·rw [if_pos c3] at hj
    obtain rfl := Option.some.inj hj
    exact absurd hi (qne i)
   ·rw [if_neg c3] at hj
    by_cases c4 : j = k
    ·rw [if_pos c4] at hj
     obtain rfl := Option.some.inj hj
     exact absurd (bne i hi) c1
    ·rw [if_neg c4] at hj; exact ix i j a hi hj
theorem a8P {α : Type} {l : List α} {k : Nat} {a q : α} (nd : l.Nodup) (ha : l[k]? = some a) (hk : k + 1 < l.length) (hq : q ∉ l) : ((l.set k q).set (k + 1) a).Nodup := by
 refine ndix.mpr fun i j x hi hj => ?_
 have key : ∀ i, ((l.set k q).set (k + 1) a)[i]? = if i = k + 1 then some a else if i = k then some q else l[i]? := fun i => by
  by_cases c : i = k + 1
  ·subst c; rw [if_pos rfl, List.getElem?_set_self (by rw [List.length_set]; exact hk)]
  ·rw [if_neg c, List.getElem?_set_ne (fun z => c z.symm)]
   by_cases c2 : i = k
   ·subst c2; rw [if_pos rfl, List.getElem?_set_self (by lia)]
   ·rw [if_neg c2, List.getElem?_set_ne (fun z => c2 z.symm)]
 have ix := ndix.mp nd
 rw [key] at hi hj
 have bne : ∀ i, l[i]? = some a → i = k := fun i e => ix i _ a e ha
 have qne : ∀ i, l[i]? ≠ some q := fun i e => hq (List.mem_of_getElem? e)
 have bq : a ≠ q := fun e => hq (by rw [← e]; exact List.mem_of_getElem? ha)
 by_cases c1 : i = k + 1
 ·rw [if_pos c1] at hi
  obtain rfl := Option.some.inj hi
  by_cases c2 : j = k + 1
  ·rw [c1, c2]
  ·rw [if_neg c2] at hj
   by_cases c3 : j = k
   ·rw [if_pos c3] at hj; exact absurd (Option.some.inj hj).symm bq
   ·rw [if_neg c3] at hj; exact absurd (bne j hj) c3
 ·rw [if_neg c1] at hi
  by_cases c2 : i = k
  ·rw [if_pos c2] at hi
   obtain rfl := Option.some.inj hi
   by_cases c3 : j = k + 1
   ·rw [if_pos c3] at hj; exact absurd (Option.some.inj hj) bq
   ·rw [if_neg c3] at hj
    by_cases c4 : j = k
    ·rw [c2, c4]
    ·rw [if_neg c4] at hj; exact absurd hj (qne j)
  ·rw [if_neg c2] at hi
   by_cases c3 : j = k + 1
   ·rw [if_pos c3] at hj
    obtain rfl := Option.some.inj hj
    exact absurd (bne i hi) c2
   ·rw [if_neg c3] at hj
    by_cases c4 : j = k
    ·rw [if_pos c4] at hj
     obtain rfl := Option.some.inj hj
     exact absurd hi (qne i)
    ·rw [if_neg c4] at hj; exact ix i j x hi hj
noncomputable def minK (i : Nat) (rows : List (List Int)) : List (List Int) := (List.range rows.length).map fun j => if j < i then (rows.getD j []).set j ((rows.getD j []).getD j 0 - 1) else rows.getD j []
theorem a5c {i : Nat} {rows : List (List Int)} : (minK i rows).length = rows.length := by unfold minK; rw [List.length_map, List.length_range]
theorem a5Q {i j : Nat} {rows : List (List Int)} (h : j < rows.length) : (minK i rows)[j]? = some (if j < i then (rows.getD j []).set j ((rows.getD j []).getD j 0 - 1) else rows.getD j []) := by
 unfold minK
 rw [List.getElem?_map, List.getElem?_range h]; rfl
theorem b2U {rows : List (List Int)} : minK 0 rows = rows := by
 refine List.ext_getElem? fun j => ?_
 by_cases h : j < rows.length
 ·rw [a5Q h, if_neg (by lia), List.getD_eq_getElem?_getD, List.getElem?_eq_getElem h]; rfl
 ·rw [List.getElem?_eq_none (by rw [a5c]; lia), List.getElem?_eq_none (by lia)]
theorem b2V {i : Nat} {rows : List (List Int)} {r : List Int} (h : rows[i]? = some r) : minK (i + 1) rows = (minK i rows).set i (r.set i (r.getD i 0 - 1)) := by
 have hi := (List.getElem?_eq_some_iff.mp h).1
 refine List.ext_getElem? fun j => ?_
 by_cases hj : j < rows.length
 ·rw [a5Q hj, List.getElem?_set]
  by_cases z : i = j
  ·subst z
   rw [if_pos (Nat.lt_succ_self i), if_pos rfl, if_pos (by rw [a5c]; exact hj), List.getD_eq_getElem?_getD, h]; rfl
  ·rw [if_neg z, a5Q hj]
   by_cases c : j < i
   ·rw [if_pos c, if_pos (by lia)]
   ·rw [if_neg c, if_neg (by lia)]
 ·rw [List.getElem?_eq_none (by rw [a5c]; lia), List.getElem?_eq_none (by rw [List.length_set, a5c]; lia)]
theorem b4C {n : Nat} {rows : List (List Int)} (h : rows.length = n) : minK n rows = minU n rows := by
 unfold minK minU
 rw [h]
 refine List.map_congr_left fun j hj => ?_
 rw [if_pos (List.mem_range.mp hj)]
theorem b1Y {n : Nat} : (unR n).length = n := by unfold unR; rw [List.length_map, List.length_range]
theorem b5C {n i : Nat} (h : i < n) : (unR n)[i]? = some ((List.range n).map fun j => if i = j then (1 : Int) else 0) := by
 unfold unR
 rw [List.getElem?_map, List.getElem?_range h]; rfl
noncomputable def RB (n : Nat) (B : Nat) (rows : List (List Int)) : Prop := rows.length = n ∧ ∀ r ∈ rows, r.length = n ∧ ∀ x ∈ r, x.natAbs ≤ B
theorem RB.mono {n B C : Nat} {rows : List (List Int)} (h : RB n B rows) (s : B ≤ C) : RB n C rows := ⟨h.1, fun r hr => ⟨(h.2 r hr).1, fun x hx => Nat.le_trans ((h.2 r hr).2 x hx) s⟩⟩
theorem b5c (n : Nat) : RB n 1 (unR n) := by
 refine ⟨b1Y, fun r hr => ?_⟩
 obtain ⟨i, _, rfl⟩ := List.mem_map.mp hr
 refine ⟨by rw [List.length_map, List.length_range], fun x hx => ?_⟩
 obtain ⟨j, _, rfl⟩ := List.mem_map.mp hx
 split <;> decide
theorem b5f {n B : Nat} {a b : List Int} (ha : a.length = n ∧ ∀ x ∈ a, x.natAbs ≤ B) (hb : b.length = n ∧ ∀ x ∈ b, x.natAbs ≤ B) : (tw2 a b).length = n ∧ ∀ x ∈ tw2 a b, x.natAbs ≤ 3 * B := by
 refine ⟨by unfold tw2; rw [List.length_zipWith, ha.1, hb.1]; exact Nat.min_self _, fun x hx => ?_⟩
 obtain ⟨j, hj⟩ := List.getElem?_of_mem hx
 unfold tw2 at hj
 rw [List.getElem?_zipWith] at hj
 cases eu : a[j]? with
 | none => rw [eu] at hj; cases hj
 | some y => cases ev : b[j]? with
   | none => rw [eu, ev] at hj; cases hj
   | some z =>
     rw [eu, ev] at hj
     obtain rfl := (Option.some.inj hj).symm
     have h1 := ha.2 y (List.mem_of_getElem? eu)
     have h2 := hb.2 z (List.mem_of_getElem? ev)
     lia
theorem RB.row {n B k : Nat} {rows : List (List Int)} (h : RB n B rows) (hk : k < n) : (rows.getD k []).length = n ∧ ∀ x ∈ rows.getD k [], x.natAbs ≤ B := by
 rw [List.getD_eq_getElem?_getD, List.getElem?_eq_getElem (by rw [h.1]; exact hk)]
 exact h.2 _ (List.getElem_mem _)
theorem RB.set {n B k : Nat} {rows : List (List Int)} {r : List Int} (h : RB n B rows) (hr : r.length = n ∧ ∀ x ∈ r, x.natAbs ≤ B) : RB n B (rows.set k r) := ⟨by rw [List.length_set]; exact h.1, fun q hq => by
 rcases List.mem_or_eq_of_mem_set hq with z | rfl
 ·exact h.2 q z
 ·exact hr⟩
theorem b7B {n B : Nat} {rows : List (List Int)} {l : Int} (h : RB n B rows) (hl : LetOK n l) : RB n (3 * B) (sh1 rows l) := by
 obtain ⟨h1, h2⟩ := hl
 have ra := h.row (k := l.natAbs - 1) (by lia)
 have rb := h.row (k := l.natAbs) (by lia)
 have up : ∀ {r : List Int}, (r.length = n ∧ ∀ x ∈ r, x.natAbs ≤ B) → r.length = n ∧ ∀ x ∈ r, x.natAbs ≤ 3 * B := fun z => ⟨z.1, fun x hx => by have := z.2 x hx; lia⟩
 have hm := h.mono (show B ≤ 3 * B by lia)
 unfold sh1
 dsimp only
 split
 ·exact (hm.set (up rb)).set (b5f rb ra)
 ·exact (hm.set (b5f ra rb)).set (up ra)
theorem b4d (rows : List (List Int)) (ws : List Int) (l : Int) : shL rows (ws ++ [l]) = sh1 (shL rows ws) l := by unfold shL; rw [List.foldl_append]; rfl
theorem b2n {n : Nat} : ∀ {ws : List Int} {B : Nat} {rows : List (List Int)}, RB n B rows → WordOK n ws → RB n (3 ^ ws.length * B) (shL rows ws)
 | [], B, rows, h, _ => by rw [List.length_nil, Nat.pow_zero, Nat.one_mul]; exact h
 | l :: w, B, rows, h, hw => by
   have := b2n (ws := w) (b7B h (hw l (.head _))) fun y hy => hw y (.tail _ hy)
   rw [List.length_cons, Nat.pow_succ, Nat.mul_assoc]
   exact this
theorem b8M {m : Int} (hm : 0 < m) (h97 : m ≤ 97) {n c : Nat} {a b : List Int} (ha : a.length = n) (hb : b.length = n) : (clr m c a b).length = n ∧ ∀ x ∈ clr m c a b, x.natAbs ≤ 97 := by
 unfold clr
 refine ⟨by rw [List.length_zipWith, ha, hb, Nat.min_self], fun x hx => ?_⟩
 obtain ⟨j, hj⟩ := List.getElem?_of_mem hx
 rw [List.getElem?_zipWith] at hj
 cases eu : a[j]? with
 | none => rw [eu] at hj; cases hj
 | some y => cases ev : b[j]? with
   | none => rw [eu, ev] at hj; cases hj
   | some z =>
     rw [eu, ev] at hj
     obtain rfl := (Option.some.inj hj).symm
     generalize y * b.getD c 0 - z * a.getD c 0 = e
     have := Int.emod_nonneg e (show m ≠ 0 by lia)
     have := Int.emod_lt_of_pos e hm
     lia
theorem b0C {p : Int} : ∀ (k c : Nat) (rows : List (List Int)), rkL p k c rows ≤ k
 | 0, _, _ => Nat.le_refl _
 | k + 1, c, rows => by
   unfold rkL
   split
   ·have := b0C (p := p) k (c + 1) rows
    lia
   ·rename_i f t e
    have := b0C (p := p) k (c + 1) (rows.map fun r => clr p c r f)
    lia
local macro_rules | `(tactic| walk_at "rd") => `(tactic| (try simp only [b8C, b7F, b7o, rIn3, b2h, a7N, a7O, b7n, a7A, tCB3, b2f, b7r, b3Y, tK, tOp3, tUn3, a2l, b5H, b5g, b7t, b5i, b7w, b2e, b7l, b7q, b7x, tOr3, b5k, b7p, b0x, b7k, b7s, b5j, tLM3, b5h, tLMS, a9M, b6I, b4h, b7u, tDGT, sDPT, rIs3, b7M, b0L, b6J, b7j,
 a9b, a9d, b6O, b3n, b8F, a8z, tSl3, tNo3, tPt3, b8D, b5r, b3i, b3h, b6L, b6d, b5V, b5X, b7N, b7L, b7J, rInt, b5W, rIx3, b5Y, b6e, a9L, b2s, b5Z, b6c, b4i, a7P, rLt3, rLe3, rGt3, rGe3, a9N, rEq3, rNe3, rEqv, truT, b4K,
 a9D, a9C, b1n, b1v, b1u, b2x, b3c, List.getElem?_cons_zero, List.getElem?_cons_succ, List.set_cons_zero, List.set_cons_succ, List.length_cons, List.length_nil, List.map_nil, List.isEmpty_cons, List.isEmpty_nil, a0d, a3s, b1V, b5a, b9L, b9B, a4b, a8Y,
 a4X, b4k, a6g, a6f, b1r, a3e, a5f, b6V, b0V, a7r, b3y, a5x, b3r, a3q, b3q, b4S, a6C, id, Bool.not_true, Bool.not_false, Bool.and_true, Bool.true_and, Bool.or_false, Bool.false_or,
 decide_eq_true_eq, Bool.not_eq_true', decide_eq_false_iff_not, Bool.false_eq_true, ↓reduceIte, if_true, if_false, true_and, and_true, and_self, Nat.zero_le, not_true_eq_false, not_false_eq_true, List.length_map, List.length_append, List.length_singleton]))
noncomputable abbrev top (i : Nat) : Stmt := PySem.Challenge.pw_loopwright_k64_whole_moves_keep_how_many.main.body.getD i (.Pass ⟨0, 0, 0, 0⟩)
noncomputable abbrev a2o : Stmt := top 9
noncomputable abbrev a3c : Stmt := top 10
noncomputable abbrev a2Z : Stmt := top 11
noncomputable abbrev a4j : Stmt := top 12
noncomputable abbrev a2p : Stmt := top 17
noncomputable abbrev a0P : Stmt := top 18
noncomputable abbrev a1U : Stmt := top 19
noncomputable abbrev a1s : Stmt := top 20
noncomputable abbrev a4i : Stmt := top 21
noncomputable abbrev a2Y : Stmt := top 22
noncomputable abbrev a2q : Stmt := top 23
noncomputable abbrev a1y : Stmt := top 24
noncomputable abbrev a1b : Stmt := top 25
noncomputable abbrev a1x : Stmt := top 26
noncomputable abbrev a0L : Stmt := top 27
noncomputable abbrev a3d : Stmt := top 28
noncomputable abbrev a2y : Stmt := top 29
noncomputable abbrev a1t : Stmt := top 30
noncomputable abbrev a1W : Stmt := top 32
noncomputable abbrev a2r : Stmt := top 33
noncomputable abbrev a1H : Stmt := top 34
noncomputable abbrev a1X : Stmt := top 35
noncomputable abbrev a2s : Stmt := top 36
noncomputable abbrev a1V : Stmt := top 37
noncomputable abbrev a1Z : Stmt := top 38
noncomputable abbrev a2t : Stmt := top 39
noncomputable abbrev a1d : Stmt := top 40
noncomputable abbrev a1z : Stmt := top 42
noncomputable abbrev a1c : Stmt := top 43
noncomputable abbrev a1e : Stmt := top 44
noncomputable abbrev a1Y : Stmt := top 45
noncomputable abbrev a1i : Stmt := top 46
noncomputable abbrev a1I : Stmt := top 48
noncomputable abbrev a0X : Stmt := top 47
noncomputable abbrev a7H : Stmt := top 49
theorem a8E : FnScope ["strands", "letter"] ["strands", "letter"] (a0b a2o) := ⟨rfl, rfl, rfl, by decide +kernel, rfl, by decide +kernel, by decide +kernel⟩
theorem b1o : FnScope ["strands", "word", "most"] ["strands", "word", "most"] (a0b a3c) := ⟨rfl, rfl, rfl, by decide +kernel, rfl, by decide +kernel, by decide +kernel⟩
theorem a9G : FnScope ["plait"] ["plait"] (a0b a2Z) := ⟨rfl, rfl, rfl, by decide +kernel, rfl, by decide +kernel, by decide +kernel⟩
theorem b2q : FnScope ["plait"] ["plait"] (a0b a4j) := ⟨rfl, rfl, rfl, by decide +kernel, rfl, by decide +kernel, by decide +kernel⟩
theorem a6c : FnScope ["table", "many"] ["table"] (a0b a2p) := ⟨rfl, rfl, rfl, by decide +kernel, rfl, by decide +kernel, by decide +kernel⟩
theorem a0T : FnScope ["table", "c", "a", "row", "b", "under"] ["table", "c"] (a0b a0P) := ⟨rfl, rfl, rfl, by decide +kernel, rfl, by decide +kernel, by decide +kernel⟩
theorem a4E : FnScope ["table", "colours", "colour"] ["table"] (a0b a1U) := ⟨rfl, rfl, rfl, by decide +kernel, rfl, by decide +kernel, by decide +kernel⟩
theorem a6a : FnScope ["table"] ["table"] (a0b a1s) := ⟨rfl, rfl, rfl, by decide +kernel, rfl, by decide +kernel, by decide +kernel⟩
theorem a3t : FnScope ["table", "colour_by", "a", "row", "c", "d"] ["table"] (a0b a4i) := ⟨rfl, rfl, rfl, by decide +kernel, rfl, by decide +kernel, by decide +kernel⟩
theorem a2m : FnScope ["table", "colour_by", "word", "colours", "row", "letter", "at", "left", "right"] ["table", "colour_by", "word", "colours"] (a0b a2Y) := ⟨rfl, rfl, rfl, by decide +kernel, rfl, by decide +kernel, by decide +kernel⟩
theorem a2n : FnScope ["many", "places", "rows", "place", "longer", "row"] ["many", "places"] (a0b a2q) := ⟨rfl, rfl, rfl, by decide +kernel, rfl, by decide +kernel, by decide +kernel⟩
theorem a4U : FnScope ["table", "plait", "colour_by"] ["table", "plait"] (a0b a1y) := ⟨rfl, rfl, rfl, by decide +kernel, rfl, by decide +kernel, by decide +kernel⟩
theorem a6b : FnScope ["number"] ["number"] (a0b a1b) := ⟨rfl, rfl, rfl, by decide +kernel, rfl, by decide +kernel, by decide +kernel⟩
theorem a7F : FnScope ["row", "other"] ["row", "other"] (a0b a1x) := ⟨rfl, rfl, rfl, by decide +kernel, rfl, by decide +kernel, by decide +kernel⟩
theorem a0W : FnScope ["plait", "strands", "rows", "letter", "at", "pair"] ["plait"] (a0b a0L) := ⟨rfl, rfl, rfl, by decide +kernel, rfl, by decide +kernel, by decide +kernel⟩
theorem b1p : FnScope ["row", "first", "column", "prime"] ["row", "first", "column", "prime"] (a0b a3d) := ⟨rfl, rfl, rfl, by decide +kernel, rfl, by decide +kernel, by decide +kernel⟩
theorem a2X : FnScope ["rows", "prime", "rank", "column", "found"] ["rows", "prime"] (a0b a2y) := ⟨rfl, rfl, rfl, by decide +kernel, rfl, by decide +kernel, by decide +kernel⟩
theorem a3b : FnScope ["prime", "plait", "rows", "place"] ["prime", "plait"] (a0b a1t) := ⟨rfl, rfl, rfl, by decide +kernel, rfl, by decide +kernel, by decide +kernel⟩
theorem a3H : FnScope ["script", "k", "cell"] ["script", "k"] (a0b a1W) := ⟨rfl, rfl, rfl, by decide +kernel, rfl, by decide +kernel, by decide +kernel⟩
theorem a3k : FnScope ["state", "many", "found", "mixed"] ["state", "many"] (a0b a2r) := ⟨rfl, rfl, rfl, by decide +kernel, rfl, by decide +kernel, by decide +kernel⟩
theorem a4v : FnScope ["state", "strands", "number"] ["state", "strands"] (a0b a1H) := ⟨rfl, rfl, rfl, by decide +kernel, rfl, by decide +kernel, by decide +kernel⟩
theorem a2V : FnScope ["state", "most", "longest", "strands", "word", "k"] ["state", "most", "longest"] (a0b a1X) := ⟨rfl, rfl, rfl, by decide +kernel, rfl, by decide +kernel, by decide +kernel⟩
theorem a8F : FnScope ["letter"] ["letter"] (a0b a2s) := ⟨rfl, rfl, rfl, by decide +kernel, rfl, by decide +kernel, by decide +kernel⟩
theorem a2U : FnScope ["part", "p", "q", "r"] ["part"] (a0b a1V) := ⟨rfl, rfl, rfl, by decide +kernel, rfl, by decide +kernel, by decide +kernel⟩
theorem a2h : FnScope ["strands", "word", "step", "at", "ahead", "part", "pair"] ["strands", "word", "step"] (a0b a1Z) := ⟨rfl, rfl, rfl, by decide +kernel, rfl, by decide +kernel, by decide +kernel⟩
theorem a4F : FnScope ["strands", "word", "found", "kind"] ["strands", "word"] (a0b a2t) := ⟨rfl, rfl, rfl, by decide +kernel, rfl, by decide +kernel, by decide +kernel⟩
theorem a3O : FnScope ["state", "strands", "word", "longest", "some"] ["state", "strands", "word", "longest"] (a0b a1d) := ⟨rfl, rfl, rfl, by decide +kernel, rfl, by decide +kernel, by decide +kernel⟩
theorem a3I : FnScope ["plait", "move", "strands", "word"] ["plait", "move"] (a0b a1z) := ⟨rfl, rfl, rfl, by decide +kernel, rfl, by decide +kernel, by decide +kernel⟩
theorem a1w : FnScope ["plait", "move", "strands", "word", "last", "there"] ["plait", "move"] (a0b a1c) := ⟨rfl, rfl, rfl, by decide +kernel, rfl, by decide +kernel, by decide +kernel⟩
theorem a0Q : FnScope ["state", "plait", "longest", "strands", "word", "some", "move", "step"] ["state", "plait", "longest"] (a0b a1e) := ⟨rfl, rfl, rfl, by decide +kernel, rfl, by decide +kernel, by decide +kernel⟩
theorem a1G : FnScope ["state", "plait", "many", "most", "longest", "found", "k", "move", "room"] ["state", "plait", "many", "most", "longest"] (a0b a1Y) := ⟨rfl, rfl, rfl, by decide +kernel, rfl, by decide +kernel, by decide +kernel⟩
theorem a1F : FnScope ["table", "state", "many", "left", "names", "found", "a"] ["table", "state"] (a0b a1i) := ⟨rfl, rfl, rfl, by decide +kernel, rfl, by decide +kernel, by decide +kernel⟩
theorem a4w : FnScope ["one", "other"] ["one", "other"] (a0b a1I) := ⟨rfl, rfl, rfl, by decide +kernel, rfl, by decide +kernel, by decide +kernel⟩
theorem a1l : FnScope ["state", "most", "some", "way", "many", "times", "t", "plain"] ["state", "most"] (a0b a0X) := ⟨rfl, rfl, rfl, by decide +kernel, rfl, by decide +kernel, by decide +kernel⟩
theorem a7d : FnScope ["script", "state", "plait", "there", "table", "prime"] ["script"] (a0b a7H) := ⟨rfl, rfl, rfl, by decide +kernel, rfl, by decide +kernel, by decide +kernel⟩
structure Zs (mg : Str → Option Value) : Prop where
 b_abs : mg "abs" = none
 b_all : mg "all" = none
 b_enumerate : mg "enumerate" = none
 b_int : mg "int" = none
 b_len : mg "len" = none
 b_list : mg "list" = none
 b_range : mg "range" = none
 b_sorted : mg "sorted" = none
 b_tuple : mg "tuple" = none
 b_zip : mg "zip" = none
 c_MOST_COLOURS : ∃ tk, mg "MOST_COLOURS" = some (.int 7 tk)
 c_MOST_LETTERS : ∃ tk, mg "MOST_LETTERS" = some (.int 16 tk)
 c_MOST_PRIME : ∃ tk, mg "MOST_PRIME" = some (.int 97 tk)
 c_MOST_ROWS : ∃ tk, mg "MOST_ROWS" = some (.int 2500 tk)
 c_MOST_STRANDS : ∃ tk, mg "MOST_STRANDS" = some (.int 6 tk)
noncomputable def a2x : Sp3 := fun ts M Q => match ts with
 | [.int n, .int l] => Q (.bl (a5O n l)) M
 | _ => False
theorem a8L {P : Program} {w : World} {K : PySem.W.Frag} {mg : Str → Option Value} {base : Heap} {f : Addr} {fd : FuncData} {n : Nat}  (F : Fun K "is_letter" "is_letter" a2o f fd) (hm : mg "is_letter" = some (.ref f)) (hb : a1f K fd ["strands", "letter"] []) (Z : Zs mg)  : Df P w K mg base (n + 1) "is_letter" ["strands", "letter"] a2x := by
 refine F.dfn hm hb a8E (by intro ts M Q h; unfold a2x at h; first | (split at h <;> first | rfl | exact h.elim) | (obtain ⟨_, _, _, _, _, rfl, _⟩ := h; rfl) | (obtain ⟨_, _, _, _, rfl, _⟩ := h; rfl) | (obtain ⟨_, _, _, rfl, _⟩ := h; rfl) | (obtain ⟨_, _, rfl, _⟩ := h; rfl) | (obtain ⟨_, rfl, _⟩ := h; rfl)) ⟨_, fun cdv A outer s H E hr => (a0j (a0C (b3l a5b a5a a0f (a0o a0R Z.b_abs PyProof.Rows.boot_abs (a0a (hv 1) a0e)) (hv 0)))), fun ts M Q h => ?_⟩
 unfold a2x a5O at h
 split at h
 ·rename_i n l
  walk_at "rd"
  refine ite2 (fun c => a0m ?_) (fun c => a0m ?_)
  ·simpa [show 1 ≤ l.natAbs by lia] using h
  ·simpa [show ¬ 1 ≤ l.natAbs by lia] using h
 ·exact h.elim
noncomputable def a4f : Sp3 := fun ts M Q => match ts with
 | [.int n, .tup w, .int k] => ∃ ws : List Int, w = ws.map .int ∧ ws.length < 10000 ∧ Q (.bl (isWd n ws k)) M
 | _ => False
theorem b1y {P : Program} {w : World} {K : PySem.W.Frag} {mg : Str → Option Value} {base : Heap} {f : Addr} {fd : FuncData} {n : Nat}  (F : Fun K "is_word" "is_word" a3c f fd) (hm : mg "is_word" = some (.ref f)) (hb : a1f K fd ["strands", "word", "most"] []) (Z : Zs mg) (D_is_letter : Df P w K mg base n "is_letter" ["strands", "letter"] a2x) : Df P w K mg base (n + 1) "is_word" ["strands", "word", "most"] a4f := by
 obtain ⟨tk_MOST_STRANDS, c_MOST_STRANDS⟩ := Z.c_MOST_STRANDS
 refine F.dfn hm hb b1o (by intro ts M Q h; unfold a4f at h; first | (split at h <;> first | rfl | exact h.elim) | (obtain ⟨_, _, _, _, _, rfl, _⟩ := h; rfl) | (obtain ⟨_, _, _, _, rfl, _⟩ := h; rfl) | (obtain ⟨_, _, _, rfl, _⟩ := h; rfl) | (obtain ⟨_, _, rfl, _⟩ := h; rfl) | (obtain ⟨_, rfl, _⟩ := h; rfl)) ⟨_, fun cdv A outer s H E hr => (a0c (s_if (HW.ht (w_or (b1M (b0O a5b a5b a0f (hv 0) (a6x c_MOST_STRANDS))) (a8w (a0t a3v (a0o a0u Z.b_len PySem.boot_len (a0a (hv 1) a0e)) (hv 2) (a0n _))))) (a0j (a0C h_bl)) a0D) (a0j (a0C (a0o (a5h rfl) Z.b_all PyProof.Rows.boot_all (a0a (a2B rfl (a4J (hv 1)) (a0F (outer := a0b a3c) (N := ["strands", "word", "most"]) (N' := ["letter", "strands"]) (ix := [none, some 0]) (by decide +kernel) rfl rfl) a1o (fun _ _ _ _ _ => a0S (i := 0) (show List.Nodup (["letter", "strands"] : List Str) by decide +kernel) rfl (Or.inl rfl) (Or.inr rfl)) (fun _ _ _ _ _ => a2K) (fun _ _ _ _ _ => (a0q D_is_letter hr (a0a (hv 1) (a0a (hv 0) a0e))))) a0e))))), fun ts M Q h => ?_⟩
 unfold a4f at h
 split at h
 ·rename_i n w k
  obtain ⟨ws, rfl, hl, h⟩ := h
  unfold isWd at h
  walk_at "rd"
  refine ite2 (fun c1 => ite2 (fun c2 => ?_) fun c2 => ite2 (fun c3 => ?_) fun c3 => ?_) fun c1 => ?_
  ·rw [decide_eq_false c2, Bool.and_false, Bool.false_and] at h
   exact a0m h
  ·rw [decide_eq_false (show ¬ (ws.length : Int) ≤ k by lia), Bool.and_false, Bool.false_and] at h
   exact a0m h
  ·rw [decide_eq_true c1, decide_eq_true (show n ≤ 6 by lia), decide_eq_true (show (ws.length : Int) ≤ k by lia)] at h
   refine ⟨fun i ys M' => ys = ((ws.take i).map (a5O n)).map T.bl ∧ M' = M, ⟨rfl, rfl⟩, fun _ _ _ _ => trivial, Nat.lt_of_le_of_lt (by lia : ws.length ≤ 10000) (by decide), ?_, ?_⟩
   ·rintro i x ys M' hx ⟨rfl, rfl⟩
    obtain ⟨l, hl', rfl⟩ := a0B hx
    unfold a2x
    refine ⟨?_, rfl⟩
    rw [← a0H (a5O n) hl', List.map_append]; rfl
   ·rintro ys M' ⟨rfl, rfl⟩ p hp
    rw [List.take_length, a4b]
    refine a0v (M0 := M') ?_ (Sub.new hp)
    rw [List.all_map]
    exact h
  ·rw [decide_eq_false c1, Bool.false_and, Bool.false_and, Bool.false_and] at h
   exact a0m h
 ·exact h.elim
noncomputable def a3C : Sp3 := fun ts M Q => match ts with
 | [.tup [.int n, .tup w]] => ∃ ws : List Int, w = ws.map .int ∧ ws.length < 10000 ∧ Q (.bl (isPl n ws)) M
 | _ => False
theorem a9S {P : Program} {w : World} {K : PySem.W.Frag} {mg : Str → Option Value} {base : Heap} {f : Addr} {fd : FuncData} {n : Nat}  (F : Fun K "is_plait" "is_plait" a2Z f fd) (hm : mg "is_plait" = some (.ref f)) (hb : a1f K fd ["plait"] []) (Z : Zs mg) (D_is_word : Df P w K mg base n "is_word" ["strands", "word", "most"] a4f) : Df P w K mg base (n + 1) "is_plait" ["plait"] a3C := by
 obtain ⟨tk_MOST_LETTERS, c_MOST_LETTERS⟩ := Z.c_MOST_LETTERS
 refine F.dfn hm hb a9G (by intro ts M Q h; unfold a3C at h; first | (split at h <;> first | rfl | exact h.elim) | (obtain ⟨_, _, _, _, _, rfl, _⟩ := h; rfl) | (obtain ⟨_, _, _, _, rfl, _⟩ := h; rfl) | (obtain ⟨_, _, _, rfl, _⟩ := h; rfl) | (obtain ⟨_, _, rfl, _⟩ := h; rfl) | (obtain ⟨_, rfl, _⟩ := h; rfl)) ⟨_, fun cdv A outer s H E hr => (a0j (a0C (a0q D_is_word hr (a0a (h_ix (hv 0) a0f) (a0a (h_ix (hv 0) a0f) (a0a (a6x c_MOST_LETTERS) a0e)))))), fun ts M Q h => ?_⟩
 unfold a3C at h
 split at h
 ·rename_i n w
  obtain ⟨ws, rfl, hl, h⟩ := h
  walk_at "rd"
  refine ⟨ws, rfl, hl, ?_⟩
  rw [b6H]
  exact a0m h
 ·exact h.elim
noncomputable def a3R : Sp3 := fun ts M Q => match ts with
 | [.tup [.int n, .tup w]] => ∃ ws : List Int, w = ws.map .int ∧ PlOK n ws ∧ Q (.int ws.length) M
 | _ => False
theorem b2J {P : Program} {w : World} {K : PySem.W.Frag} {mg : Str → Option Value} {base : Heap} {f : Addr} {fd : FuncData} {n : Nat}  (F : Fun K "looked" "looked" a4j f fd) (hm : mg "looked" = some (.ref f)) (hb : a1f K fd ["plait"] []) (Z : Zs mg) (D_is_plait : Df P w K mg base n "is_plait" ["plait"] a3C) : Df P w K mg base (n + 1) "looked" ["plait"] a3R := by
 refine F.dfn hm hb b2q (by intro ts M Q h; unfold a3R at h; first | (split at h <;> first | rfl | exact h.elim) | (obtain ⟨_, _, _, _, _, rfl, _⟩ := h; rfl) | (obtain ⟨_, _, _, _, rfl, _⟩ := h; rfl) | (obtain ⟨_, _, _, rfl, _⟩ := h; rfl) | (obtain ⟨_, _, rfl, _⟩ := h; rfl) | (obtain ⟨_, rfl, _⟩ := h; rfl)) ⟨_, fun cdv A outer s H E hr => (a0c (s_if (b1M (a5t (a0q D_is_plait hr (a0a (hv 0) a0e)))) (a0j a7G) a0D) (a0j (a0C (a0o a0u Z.b_len PySem.boot_len (a0a (h_ix (hv 0) a0f) a0e))))), fun ts M Q h => ?_⟩
 unfold a3R at h
 split at h
 ·rename_i n w
  obtain ⟨ws, rfl, ok, h⟩ := h
  walk_at "rd"
  refine ⟨ws, rfl, by have := ok.2.2.1; lia, ?_⟩
  rw [ok.is]
  walk_at "rd"
  exact a0m (M := M) h
 ·exact h.elim
noncomputable def a3D : Sp3 := fun ts M Q => match ts with
 | [.tup t] => ∃ tab : List (List Int), t = tab.map tupT ∧ tab.length < 60 ∧ (∀ r ∈ tab, r.length < 60) ∧ Q (.bl (shB tab)) M
 | _ => False
theorem a9T {P : Program} {w : World} {K : PySem.W.Frag} {mg : Str → Option Value} {base : Heap} {f : Addr} {fd : FuncData} {n : Nat}  (F : Fun K "has_form" "has_form" a2p f fd) (hm : mg "has_form" = some (.ref f)) (hb : a1f K fd ["table"] []) (Z : Zs mg)  : Df P w K mg base (n + 1) "has_form" ["table"] a3D := by
 obtain ⟨tk_MOST_COLOURS, c_MOST_COLOURS⟩ := Z.c_MOST_COLOURS
 refine F.dfn hm hb a6c (by intro ts M Q h; unfold a3D at h; first | (split at h <;> first | rfl | exact h.elim) | (obtain ⟨_, _, _, _, _, rfl, _⟩ := h; rfl) | (obtain ⟨_, _, _, _, rfl, _⟩ := h; rfl) | (obtain ⟨_, _, _, rfl, _⟩ := h; rfl) | (obtain ⟨_, _, rfl, _⟩ := h; rfl) | (obtain ⟨_, rfl, _⟩ := h; rfl)) ⟨_, fun cdv A outer s H E hr => (a0c (a0M (i := 1) (a0o a0u Z.b_len PySem.boot_len (a0a (hv 0) a0e)) a6c.nd) (a0j (a0C (b6M (b3l a5b a5b a0f (hv 1) (a6x c_MOST_COLOURS)) (b4M (a0o (a5h rfl) Z.b_all PyProof.Rows.boot_all (a0a (a2B rfl (a4J (hv 0)) (a0F (outer := a0b a2p) (N := ["table", "many"]) (N' := ["row", "many"]) (ix := [none, some 1]) (by decide +kernel) rfl rfl) a1o (fun _ _ _ _ _ => a0S (i := 0) (show List.Nodup (["row", "many"] : List Str) by decide +kernel) rfl (Or.inl rfl) (Or.inr rfl)) (fun _ _ _ _ _ => a2K) (fun _ _ _ _ _ => (a5w (a0Y hr.units) (a0o a0u Z.b_len PySem.boot_len (a0a (hv 0) a0e)) (hv 1) (a0n _)))) a0e))))))), fun ts M Q h => ?_⟩
 unfold a3D at h
 split at h
 ·rename_i t
  obtain ⟨tab, rfl, hl, hr, h⟩ := h
  walk_at "rd"
  unfold shB at h
  refine ite2 (fun c1 => ite2 (fun c2 => ?_) fun c2 => ?_) fun c1 => ?_
  ·rw [decide_eq_true (show 1 ≤ tab.length by lia), decide_eq_true (show tab.length ≤ 7 by lia)] at h
   refine ⟨fun i ys M' => ys = ((tab.take i).map fun r => decide (r.length = tab.length)).map T.bl ∧ M' = M, ⟨rfl, rfl⟩, fun _ _ _ _ => trivial, a0E (by lia), ?_, ?_⟩
   ·rintro i x ys M' hx ⟨rfl, rfl⟩
    obtain ⟨r, hr', rfl⟩ := a4p hx
    refine ⟨?_, rfl⟩
    rw [← a0H (fun r : List Int => decide (r.length = tab.length)) hr', List.map_append, List.length_map]
    rw [show decide ((r.length : Int) = (tab.length : Int)) = decide (r.length = tab.length) from by congr 1; exact propext Int.ofNat_inj]
    rfl
   ·rintro ys M' ⟨rfl, rfl⟩ p hp
    rw [List.take_length, a4b]
    refine a0v (M0 := M') ?_ (Sub.new hp)
    rw [List.all_map]
    exact h
  ·rw [decide_eq_false (show ¬ tab.length ≤ 7 by lia), Bool.and_false, Bool.false_and] at h
   exact a0m h
  ·rw [decide_eq_false (show ¬ 1 ≤ tab.length by lia), Bool.false_and, Bool.false_and] at h
   exact a0m h
 ·exact h.elim
noncomputable def a1k : Sp3 := fun ts M Q => match ts with
 | [.tup t, .int c] => ∃ tab : List (List Int), t = tab.map tupT ∧ tab.length ≤ 7 ∧ (∀ r ∈ tab, r.length = tab.length) ∧ InM tab.length c ∧ (∀ a b, InM tab.length a → InM tab.length b → InM tab.length (g2 tab a b)) ∧ Q (.bl (thB tab c)) M
 | _ => False
theorem a4G {P : Program} {w : World} {K : PySem.W.Frag} {mg : Str → Option Value} {base : Heap} {f : Addr} {fd : FuncData} {n : Nat}  (F : Fun K "keeps_third_rule" "keeps_third_rule" a0P f fd) (hm : mg "keeps_third_rule" = some (.ref f)) (hb : a1f K fd ["table", "c"] []) (Z : Zs mg)  : Df P w K mg base (n + 1) "keeps_third_rule" ["table", "c"] a1k := by
 refine F.dfn hm hb a0T (by intro ts M Q h; unfold a1k at h; first | (split at h <;> first | rfl | exact h.elim) | (obtain ⟨_, _, _, _, _, rfl, _⟩ := h; rfl) | (obtain ⟨_, _, _, _, rfl, _⟩ := h; rfl) | (obtain ⟨_, _, _, rfl, _⟩ := h; rfl) | (obtain ⟨_, _, rfl, _⟩ := h; rfl) | (obtain ⟨_, rfl, _⟩ := h; rfl)) ⟨_, fun cdv A outer s H E hr => (a0c (a4r PassesOwn.never rfl (a8k Z.b_enumerate (hv 0)) (a9a (n := 2) rfl (a1B (a0Z (i := 2) a0T.nd) (a1B (a0Z (i := 3) a0T.nd) a5H))) (a0j (a4r PassesOwn.never rfl (a8k Z.b_enumerate (hv 3)) (a9a (n := 2) rfl (a1B (a0Z (i := 4) a0T.nd) (a1B (a0Z (i := 5) a0T.nd) a5H))) (a0j (s_if (a0t (a3U hr.units) (h_ix (h_ix (hv 0) (hv 5)) (hv 1)) (h_ix (h_ix (hv 0) (h_ix (h_ix (hv 0) (hv 2)) (hv 1))) (h_ix (h_ix (hv 0) (hv 4)) (hv 1))) (a0n _)) (a0j (a0C h_bl)) a0D))))) (a0j (a0C h_bl))), fun ts M Q h => ?_⟩
 unfold a1k at h
 split at h
 ·rename_i t c
  obtain ⟨tab, rfl, hl, hr, hc, hin, h⟩ := h
  have row : ∀ {a : Int}, InM tab.length a → atI (tab.map tupT) a = some (T.tup ((tab.getD a.toNat []).map T.int)) ∧ (tab.getD a.toNat []).length = tab.length := fun {a} ha => a5l hr ha
  have at2 : ∀ {a b : Int}, InM tab.length a → InM tab.length b → atI ((tab.getD a.toNat []).map T.int) b = some (.int (g2 tab a b)) := fun {a b} ha hb => b0w hr ha hb
  refine a0g fun K1 hK1 => ?_
  refine a1K fun B1 hB1 => ?_
  walk_at "rd"
  unfold a3Q
  walk_at "rd"
  refine ⟨fun i ρ M' => (∃ x1 x2 x3 x4, ρ = [some (T.tup (List.map tupT tab)), some (T.int c), x1, x2, x3, x4]) ∧ M' = M ∧ ∀ a, 0 ≤ a → a < (i : Int) → thA tab c a = true, ⟨⟨_, _, _, _, rfl⟩, rfl, fun a h1 h2 => absurd h2 (by lia)⟩, fun _ _ _ _ => trivial, ?_, ?_⟩
  ·rintro i x ρ M' hx ⟨⟨x1, x2, x3, x4, rfl⟩, rfl, ih⟩
   obtain ⟨t, hx2, rfl⟩ := a6D hx
   obtain ⟨r, hx3, rfl⟩ := a4p hx2
   have hi : i < tab.length := (List.getElem?_eq_some_iff.mp hx3).1
   have ha : InM tab.length (i : Int) := ⟨by lia, by lia⟩
   have er : r = tab.getD (i : Int).toNat [] := by rw [Int.toNat_natCast, List.getD_eq_getElem?_getD, hx3]; rfl
   subst er
   walk_at "rd"
   rw [hB1]
   refine a1K fun B2 hB2 => ?_
   rw [show tupT (tab.getD (i : Int).toNat []) = T.tup ((tab.getD (i : Int).toNat []).map T.int) from rfl]
   unfold a3Q
   walk_at "rd"
   refine ⟨fun j ρ M2 => (∃ x3 x4, ρ = [some (T.tup (List.map tupT tab)), some (T.int c), some (T.int i), some (T.tup ((tab.getD (i : Int).toNat []).map T.int)), x3, x4]) ∧ M2 = M' ∧ ∀ b, 0 ≤ b → b < (j : Int) → g2 tab (g2 tab i b) c = g2 tab (g2 tab i c) (g2 tab b c), ⟨⟨_, _, rfl⟩, rfl, fun a h1 h2 => absurd h2 (by lia)⟩, fun _ _ _ _ => trivial, ?_, ?_⟩
   ·rintro j x ρ M2 hy ⟨⟨x3, x4, rfl⟩, rfl, ih2⟩
    obtain ⟨t, hy2, rfl⟩ := a6D hy
    obtain ⟨u, hy3, rfl⟩ := a0B hy2
    have hj : j < tab.length := by have := (List.getElem?_eq_some_iff.mp hy3).1; rwa [(row ha).2] at this
    have hb : InM tab.length (j : Int) := ⟨by lia, by lia⟩
    have eu : u = g2 tab i j := by
     have := at2 ha hb
     rw [a8t _ _ hb.1 (by rw [(row ha).2]; exact hb.2)] at this
     unfold g2 gI
     rw [Int.toNat_natCast j, List.getD_eq_getElem?_getD, hy3]; rfl
    subst eu
    walk_at "rd"
    rw [hB2]
    walk_at "rd"
    have hij := hin _ _ ha hb
    have hic := hin _ _ ha hc
    have hjc := hin _ _ hb hc
    rw [(row hij).1, (row ha).1, (row hb).1]
    dsimp only
    rw [at2 hij hc, at2 ha hc, at2 hb hc]
    dsimp only
    rw [(row hic).1]
    dsimp only
    rw [at2 hic hjc]
    walk_at "rd"
    refine ite2 (fun ne => ?_) (fun eq => ?_)
    ·have e : thB tab c = false := by
      refine Bool.eq_false_iff.mpr fun z => ?_
      have z1 := List.all_eq_true.mp (List.all_eq_true.mp z i (a0h.mpr ha)) j (a0h.mpr hb)
      exact ne (of_decide_eq_true z1)
     rw [e] at h
     exact a0m h
    ·refine ⟨⟨_, _, rfl⟩, fun b h1 h2 => ?_⟩
     rcases (show b < (j : Int) ∨ b = j by lia) with z | rfl
     ·exact ih2 b h1 z
     ·exact Classical.byContradiction fun z => eq z
   ·rintro ρ M2 ⟨⟨x3, x4, rfl⟩, rfl, ih2⟩
    refine ⟨⟨_, _, _, _, rfl⟩, rfl, fun a h1 h2 => ?_⟩
    rcases (show a < (i : Int) ∨ a = i by lia) with z | rfl
    ·exact ih a h1 z
    ·refine List.all_eq_true.mpr fun b hb => decide_eq_true (ih2 b (a0h.mp hb).1 ?_)
     rw [a3a, List.length_map, (row ha).2]; exact (a0h.mp hb).2
  ·rintro ρ M' ⟨⟨x1, x2, x3, x4, rfl⟩, rfl, ih⟩
   rw [hK1]
   walk_at "rd"
   have e : thB tab c = true := List.all_eq_true.mpr fun a ha => ih a (a0h.mp ha).1 (by rw [a3a, List.length_map]; exact (a0h.mp ha).2)
   rw [e] at h
   exact a0m h
 ·exact h.elim
noncomputable def a3B : Sp3 := fun ts M Q => match ts with
 | [.tup t] => ∃ tab : List (List Int), t = tab.map tupT ∧ tab.length < 60 ∧ (∀ r ∈ tab, r.length < 60) ∧ Q (.bl (tabB tab)) M
 | _ => False
theorem a9R {P : Program} {w : World} {K : PySem.W.Frag} {mg : Str → Option Value} {base : Heap} {f : Addr} {fd : FuncData} {n : Nat}  (F : Fun K "is_table" "is_table" a1U f fd) (hm : mg "is_table" = some (.ref f)) (hb : a1f K fd ["table"] []) (Z : Zs mg) (D_has_form : Df P w K mg base n "has_form" ["table"] a3D) (D_keeps_third_rule : Df P w K mg base n "keeps_third_rule" ["table", "c"] a1k) : Df P w K mg base (n + 1) "is_table" ["table"] a3B := by
 refine F.dfn hm hb a4E (by intro ts M Q h; unfold a3B at h; first | (split at h <;> first | rfl | exact h.elim) | (obtain ⟨_, _, _, _, _, rfl, _⟩ := h; rfl) | (obtain ⟨_, _, _, _, rfl, _⟩ := h; rfl) | (obtain ⟨_, _, _, rfl, _⟩ := h; rfl) | (obtain ⟨_, _, rfl, _⟩ := h; rfl) | (obtain ⟨_, rfl, _⟩ := h; rfl)) ⟨_, fun cdv A outer s H E hr => (a0c (s_if (b1M (a5t (a0q D_has_form hr (a0a (hv 0) a0e)))) (a0j (a0C h_bl)) a0D) (a0c (a0M (i := 1) (a5G Z.b_list Z.b_range (a0a (a0o a0u Z.b_len PySem.boot_len (a0a (hv 0) a0e)) a0e)) a4E.nd) (a0c (a4r PassesOwn.never rfl (a4J (hv 1)) (a0Z (i := 2) a4E.nd) (a0j (s_if (HW.ht (w_or (a0t (a3U hr.units) (h_ix (h_ix (hv 0) (hv 2)) (hv 2)) (hv 2) (a0n _)) (a8w (a0t (a3U hr.units) (a0o a9s Z.b_sorted PyProof.Rows.boot_sorted (a0a (a2B rfl (a4J (hv 0)) (a0F (outer := a0b a1U) (N := ["table", "colours", "colour"]) (N' := ["row", "colour"]) (ix := [none, some 2]) (by decide +kernel) rfl rfl) a1o (fun _ _ _ _ _ => a0S (i := 0) (show List.Nodup (["row", "colour"] : List Str) by decide +kernel) rfl (Or.inl rfl) (Or.inr rfl)) (fun _ _ _ _ _ => a2K) (fun _ _ _ _ _ => (h_ix (hv 0) (hv 1)))) a0e)) (hv 1) (a0n _))))) (a0j (a0C h_bl)) a0D))) (a0j (a0C (a0o (a5h rfl) Z.b_all PyProof.Rows.boot_all (a0a (a2B rfl (a4J (hv 1)) (a0F (outer := a0b a1U) (N := ["table", "colours", "colour"]) (N' := ["colour", "table"]) (ix := [none, some 0]) (by decide +kernel) rfl rfl) a1o (fun _ _ _ _ _ => a0S (i := 0) (show List.Nodup (["colour", "table"] : List Str) by decide +kernel) rfl (Or.inl rfl) (Or.inr rfl)) (fun _ _ _ _ _ => a2K) (fun _ _ _ _ _ => (a0q D_keeps_third_rule hr (a0a (hv 1) (a0a (hv 0) a0e))))) a0e))))))), fun ts M Q h => ?_⟩
 unfold a3B at h
 split at h
 ·rename_i t
  obtain ⟨tab, rfl, hl, hr, h⟩ := h
  refine a0g fun K1 hK1 => ?_
  walk_at "rd"
  refine ⟨tab, rfl, hl, hr, ?_⟩
  dsimp only
  by_cases c1 : shB tab = true
  ·rw [c1, if_neg (by decide), hK1]
   clear hK1
   obtain ⟨l1, l7, rows⟩ := a9F.mp c1
   refine a0g fun K2 hK2 => ?_
   walk_at "rd"
   refine ⟨by constructor <;> lia, fun q hq => ?_⟩
   rw [a1J, hK2]
   clear hK2
   have hM : (updM M q (MO.lst ((a0l tab.length).map T.int))) q = some (.lst ((a0l tab.length).map T.int)) := a0d
   have hS : Sub M (updM M q (MO.lst ((a0l tab.length).map T.int))) := Sub.new hq
   generalize updM M q (MO.lst ((a0l tab.length).map T.int)) = M1 at hM hS ⊢
   refine a0g fun K3 hK3 => ?_
   refine a1K fun B hB => ?_
   unfold a3Q
   walk_at "rd"
   rw [hM]
   dsimp only
   refine ⟨fun i ρ M' => (∃ x1, ρ = [some (T.tup (List.map tupT tab)), some (T.adr q), x1]) ∧ Sub M1 M' ∧ ∀ c, 0 ≤ c → c < (i : Int) → coB tab c = true, ⟨⟨_, rfl⟩, Sub.refl, fun a h1 h2 => absurd h2 (by lia)⟩, ?_, ?_, ?_⟩
   ·rintro i ρ M' ⟨_, hS2, _⟩
    exact hS2 _ _ hM
   ·rintro i x ρ M' hx ⟨⟨x1, rfl⟩, hS2, ih⟩
    obtain ⟨c, hx2, rfl⟩ := a0B hx
    have hi : i < tab.length := by have := (List.getElem?_eq_some_iff.mp hx2).1; rw [a0p] at this; lia
    have hc : c = (i : Int) := by
     unfold a0l at hx2
     rw [List.getElem?_map, List.getElem?_range (by lia)] at hx2
     exact (Option.some.inj hx2).symm
    subst hc
    have hci : InM tab.length (i : Int) := ⟨by lia, by lia⟩
    rw [hB]
    walk_at "rd"
    rw [(a5l rows hci).1]
    dsimp only
    rw [b0w rows hci hci]
    walk_at "rd"
    refine ite2 (fun ne => ?_) (fun eq => ?_)
    ·have e : tabB tab = false := b3F hci fun z => by
      unfold coB at z
      rw [Bool.and_eq_true, decide_eq_true_eq] at z
      exact ne z.1
     rw [e] at h
     exact a0v h (hS.trans hS2)
    ·refine ⟨fun j ys M2 => ys = ((tab.take j).map fun r => gI r i).map T.int ∧ M2 = M', ⟨rfl, rfl⟩, fun _ _ _ _ => trivial, a0E (by lia), ?_, ?_⟩
     ·rintro j x ys M2 hy ⟨rfl, rfl⟩
      obtain ⟨r, hy2, rfl⟩ := a4p hy
      unfold tupT
      dsimp only
      rw [b6W rows hy2 hci]
      dsimp only
      refine ⟨?_, rfl⟩
      rw [← a0H (fun r : List Int => gI r i) hy2, List.map_append]; rfl
     ·rintro ys M2 ⟨rfl, rfl⟩ p hp
      refine ⟨_, rfl, by rw [List.length_map, List.length_take]; lia, fun ms hpm hps r hr2 => ?_⟩
      rw [List.take_length] at hpm
      have hS3 := (Sub.new hp (o := MO.lst (((tab.take tab.length).map fun r => gI r i).map T.int))).newr hr2 (o := MO.lst (ms.map T.int))
      generalize updM (updM M2 p (MO.lst (((tab.take tab.length).map fun r => gI r i).map T.int))) r (MO.lst (ms.map T.int)) = M3 at hS3 ⊢
      rw [hS3 _ _ (hS2 _ _ hM)]
      dsimp only
      rw [a6C, b2m hpm hps]
      refine ⟨a3e _, a3e _, by rw [a5x]; lia, ?_⟩
      by_cases c2 : (tab.map fun r => gI r i).Perm (a0l tab.length)
      ·rw [decide_eq_true c2, if_neg (by decide)]
       refine ⟨⟨_, rfl⟩, hS2.trans hS3, fun c h1 h2 => ?_⟩
       rcases (show c < (i : Int) ∨ c = i by lia) with z | rfl
       ·exact ih c h1 z
       ·unfold coB
        rw [decide_eq_true (show g2 tab i i = i from Classical.byContradiction fun z => eq z), decide_eq_true c2]; rfl
      ·rw [decide_eq_false c2, if_pos rfl]
       have e : tabB tab = false := b3F hci fun z => by
        unfold coB at z
        rw [Bool.and_eq_true, decide_eq_true_eq, decide_eq_true_eq] at z
        exact c2 z.2
       rw [e] at h
       exact a0v h (hS.trans (hS2.trans hS3))
   ·rintro ρ M' ⟨⟨x1, rfl⟩, hS2, ih⟩
    rw [hK3]
    clear hK3
    have hco : ∀ c, InM tab.length c → coB tab c = true := fun c hc => ih c hc.1 (by rw [List.length_map, a0p]; have := hc.2; lia)
    walk_at "rd"
    rw [hS2 _ _ hM]
    dsimp only
    refine ⟨fun j ys M2 => ys = (((a0l tab.length).take j).map (thB tab)).map T.bl ∧ M2 = M', ⟨rfl, rfl⟩, ?_, by rw [List.length_map, a0p]; exact a0E (by lia), ?_, ?_⟩
    ·rintro j ys M2 ⟨_, rfl⟩
     exact hS2 _ _ hM
    ·rintro j x ys M2 hx ⟨rfl, rfl⟩
     obtain ⟨c, hx2, rfl⟩ := a0B hx
     have hc : InM tab.length c := a0h.mp (List.mem_of_getElem? hx2)
     refine ⟨tab, rfl, l7, rows, hc, fun a b => b6Z hco, ?_, rfl⟩
     rw [← a0H (thB tab) hx2, List.map_append]; rfl
    ·rintro ys M2 ⟨rfl, rfl⟩ p hp
     rw [List.length_map, List.take_length, a4b]
     dsimp only
     have e : tabB tab = (((a0l tab.length).map (thB tab)).all id) := by
      unfold tabB
      rw [c1, List.all_eq_true.mpr (fun c hc => hco c (a0h.mp hc)), List.all_map]; rfl
     rw [← e]
     exact a0v h ((hS.trans hS2).newr hp)
  ·have e : tabB tab = false := by
    unfold tabB
    rw [Bool.eq_false_iff.mpr c1]; rfl
   rw [Bool.eq_false_iff.mpr c1, if_pos rfl]
   rw [e] at h
   exact a0m h
 ·exact h.elim
noncomputable def a2b : Sp3 := fun ts M Q => match ts with
 | [.tup t] => ∃ tab : List (List Int), t = tab.map tupT ∧ tabB tab = true ∧ Q .non M
 | _ => False
theorem a6i {P : Program} {w : World} {K : PySem.W.Frag} {mg : Str → Option Value} {base : Heap} {f : Addr} {fd : FuncData} {n : Nat}  (F : Fun K "looked_table" "looked_table" a1s f fd) (hm : mg "looked_table" = some (.ref f)) (hb : a1f K fd ["table"] []) (Z : Zs mg) (D_is_table : Df P w K mg base n "is_table" ["table"] a3B) : Df P w K mg base (n + 1) "looked_table" ["table"] a2b := by
 refine F.dfn hm hb a6a (by intro ts M Q h; unfold a2b at h; first | (split at h <;> first | rfl | exact h.elim) | (obtain ⟨_, _, _, _, _, rfl, _⟩ := h; rfl) | (obtain ⟨_, _, _, _, rfl, _⟩ := h; rfl) | (obtain ⟨_, _, _, rfl, _⟩ := h; rfl) | (obtain ⟨_, _, rfl, _⟩ := h; rfl) | (obtain ⟨_, rfl, _⟩ := h; rfl)) ⟨_, fun cdv A outer s H E hr => (a0j (s_if (b1M (a5t (a0q D_is_table hr (a0a (hv 0) a0e)))) (a0j a7G) a0D)), fun ts M Q h => ?_⟩
 unfold a2b at h
 split at h
 ·rename_i t
  obtain ⟨tab, rfl, ht, h⟩ := h
  have ok := a4C ht
  have := ok.l7
  walk_at "rd"
  refine ⟨tab, rfl, by lia, fun r hr => by rw [ok.rows r hr]; lia, ?_⟩
  dsimp only
  rw [ht, if_neg (by decide)]
  exact a0m h
 ·exact h.elim
noncomputable def CB (tab : List (List Int)) (kvs : List (List Key × T)) : Prop := ∀ a c, InM tab.length a → InM tab.length c → valT kvs [.inl (g2 tab a c), .inl c] = some (.int a)
noncomputable def a4T : Sp3 := fun ts M Q => match ts with
 | [.tup t] => ∃ tab : List (List Int), t = tab.map tupT ∧ tabB tab = true ∧ ∀ kvs p, CB tab kvs → M p = none → Q (.adr p) (updM M p (.dt kvs))
 | _ => False
theorem b2I {P : Program} {w : World} {K : PySem.W.Frag} {mg : Str → Option Value} {base : Heap} {f : Addr} {fd : FuncData} {n : Nat}  (F : Fun K "undone" "undone" a4i f fd) (hm : mg "undone" = some (.ref f)) (hb : a1f K fd ["table"] []) (Z : Zs mg)  : Df P w K mg base (n + 1) "undone" ["table"] a4T := by
 refine F.dfn hm hb a3t (by intro ts M Q h; unfold a4T at h; first | (split at h <;> first | rfl | exact h.elim) | (obtain ⟨_, _, _, _, _, rfl, _⟩ := h; rfl) | (obtain ⟨_, _, _, _, rfl, _⟩ := h; rfl) | (obtain ⟨_, _, _, rfl, _⟩ := h; rfl) | (obtain ⟨_, _, rfl, _⟩ := h; rfl) | (obtain ⟨_, rfl, _⟩ := h; rfl)) ⟨_, fun cdv A outer s H E hr => (a0c (a0M (i := 1) b8E a3t.nd) (a0c (a4r PassesOwn.never rfl (a8k Z.b_enumerate (hv 0)) (a9a (n := 2) rfl (a1B (a0Z (i := 2) a3t.nd) (a1B (a0Z (i := 3) a3t.nd) a5H))) (a0j (a4r PassesOwn.never rfl (a8k Z.b_enumerate (hv 3)) (a9a (n := 2) rfl (a1B (a0Z (i := 4) a3t.nd) (a1B (a0Z (i := 5) a3t.nd) a5H))) (a0j (b9c hr.units (hv 2) (hv 1) (a0a (hv 5) (a0a (hv 4) a0e))))))) (a0j (a0C (hv 1))))), fun ts M Q h => ?_⟩
 unfold a4T at h
 split at h
 ·rename_i t
  obtain ⟨tab, rfl, ht, h⟩ := h
  have ok := a4C ht
  have l7 := ok.l7
  walk_at "rd"
  intro p hp
  refine a0g (a := a3Q _ _ _) fun K1 hK1 => ?_
  refine a1K fun B1 hB1 => ?_
  unfold a3Q
  walk_at "rd"
  refine ⟨fun i ρ M' => ∃ x1 x2 x3 x4 kvs, ρ = [some (T.tup (List.map tupT tab)), some (.adr p), x1, x2, x3, x4] ∧ M' = updM M p (.dt kvs) ∧ kvs.length ≤ 10 * i ∧ ∀ a c, InM tab.length a → InM tab.length c → a < (i : Int) → valT kvs [.inl (g2 tab a c), .inl c] = some (.int a), ⟨_, _, _, _, [], rfl, rfl, by decide, fun a c h1 h2 h3 => absurd h3 (by have := h1.1; lia)⟩, fun _ _ _ _ => trivial, ?_, ?_⟩
  ·rintro i x ρ M' hx ⟨x1, x2, x3, x4, kvs, rfl, rfl, hlen, ih⟩
   obtain ⟨t, hx2, rfl⟩ := a6D hx
   obtain ⟨r, hx3, rfl⟩ := a4p hx2
   have hi : i < tab.length := (List.getElem?_eq_some_iff.mp hx3).1
   have ha : InM tab.length (i : Int) := ⟨by lia, by lia⟩
   have er : r = tab.getD (i : Int).toNat [] := by rw [Int.toNat_natCast, List.getD_eq_getElem?_getD, hx3]; rfl
   subst er
   have hrl := (a5l ok.rows ha).2
   walk_at "rd"
   rw [hB1]
   refine a1K fun B2 hB2 => ?_
   rw [show tupT (tab.getD (i : Int).toNat []) = T.tup ((tab.getD (i : Int).toNat []).map T.int) from rfl]
   unfold a3Q
   walk_at "rd"
   refine ⟨fun j ρ M2 => ∃ x3 x4 kvs2, ρ = [some (T.tup (List.map tupT tab)), some (.adr p), some (.int i), some (T.tup ((tab.getD (i : Int).toNat []).map T.int)), x3, x4] ∧ M2 = updM M p (.dt kvs2) ∧ kvs2.length ≤ 10 * i + j ∧ ∀ a c, InM tab.length a → InM tab.length c → (a < (i : Int) ∨ (a = (i : Int) ∧ c < (j : Int))) → valT kvs2 [.inl (g2 tab a c), .inl c] = some (.int a), ⟨_, _, kvs, rfl, rfl, hlen, fun a c h1 h2 h3 => ih a c h1 h2 (by have := h2.1; lia)⟩, fun _ _ _ _ => trivial, ?_, ?_⟩
   ·rintro j x ρ M2 hy ⟨x3, x4, kvs2, rfl, rfl, hlen2, ih2⟩
    obtain ⟨t, hy2, rfl⟩ := a6D hy
    obtain ⟨u, hy3, rfl⟩ := a0B hy2
    have hj : j < tab.length := by have := (List.getElem?_eq_some_iff.mp hy3).1; rwa [hrl] at this
    have hb : InM tab.length (j : Int) := ⟨by lia, by lia⟩
    have eu : u = g2 tab i j := by
     unfold g2 gI
     rw [Int.toNat_natCast j, List.getD_eq_getElem?_getD, hy3]; rfl
    subst eu
    walk_at "rd"
    rw [hB2]
    walk_at "rd"
    refine ⟨by decide, [.inl (g2 tab i j), .inl (j : Int)], rfl, a0E (by lia), _, _, _, rfl, rfl, Nat.le_trans (b4j _ _ _) (by lia), fun a c h1 h2 h3 => ?_⟩
    rw [b3V]
    by_cases e : ([.inl (g2 tab a c), .inl c] : List Key) = [.inl (g2 tab i j), .inl (j : Int)]
    ·rw [if_pos e]
     injection e with e1 e2
     injection e1 with e1
     injection e2 with e2 _
     injection e2 with e2
     subst e2
     rw [ok.inj h1 ha h2 e1]
    ·rw [if_neg e]
     refine ih2 a c h1 h2 ?_
     rcases h3 with z | ⟨z, z2⟩
     ·exact .inl z
     ·rcases (show c < (j : Int) ∨ c = j by lia) with y | y
      ·exact .inr ⟨z, y⟩
      ·exact absurd (by rw [z, y]) e
   ·rintro ρ M2 ⟨x3, x4, kvs2, rfl, rfl, hlen2, ih2⟩
    have el : (enT (List.map T.int (tab.getD (i : Int).toNat []))).length = tab.length := by rw [a3a, List.length_map, hrl]
    rw [el] at ih2 hlen2
    exact ⟨_, _, _, _, kvs2, rfl, rfl, by lia, fun a c h1 h2 h3 => ih2 a c h1 h2 (by have := h2.2; lia)⟩
  ·rintro ρ M' ⟨x1, x2, x3, x4, kvs, rfl, rfl, hlen, ih⟩
   rw [a3a, List.length_map] at ih
   rw [hK1]
   walk_at "rd"
   exact a0m (h kvs p (fun a c h1 h2 => ih a c h1 h2 h1.2) hp)
 ·exact h.elim
noncomputable def a3A : Sp3 := fun ts M Q => match ts with
 | [.tup t, .adr p, .tup w, .tup c] => ∃ (tab : List (List Int)) (ws cs : List Int) (kvs : List (List Key × T)), t = tab.map tupT ∧ w = ws.map .int ∧ c = cs.map .int ∧ M p = some (.dt kvs) ∧ tabB tab = true ∧ CB tab kvs ∧ WordOK cs.length ws ∧ InA tab.length cs ∧ ws.length < 60 ∧ cs.length < 60 ∧ Q (.tup ((dn tab ws cs).map .int)) M
 | _ => False
theorem a9Q {P : Program} {w : World} {K : PySem.W.Frag} {mg : Str → Option Value} {base : Heap} {f : Addr} {fd : FuncData} {n : Nat}  (F : Fun K "led_down" "led_down" a2Y f fd) (hm : mg "led_down" = some (.ref f)) (hb : a1f K fd ["table", "colour_by", "word", "colours"] []) (Z : Zs mg)  : Df P w K mg base (n + 1) "led_down" ["table", "colour_by", "word", "colours"] a3A := by
 refine F.dfn hm hb a2m (by intro ts M Q h; unfold a3A at h; first | (split at h <;> first | rfl | exact h.elim) | (obtain ⟨_, _, _, _, _, rfl, _⟩ := h; rfl) | (obtain ⟨_, _, _, _, rfl, _⟩ := h; rfl) | (obtain ⟨_, _, _, rfl, _⟩ := h; rfl) | (obtain ⟨_, _, rfl, _⟩ := h; rfl) | (obtain ⟨_, rfl, _⟩ := h; rfl)) ⟨_, fun cdv A outer s H E hr => (a0c (a0M (i := 4) (a1S b1U Z.b_list PyProof.Rows.boot_list (a0a (hv 3) a0e)) a2m.nd) (a0c (a4r PassesOwn.never rfl (a4J (hv 2)) (a0Z (i := 5) a2m.nd) (a0c (a0M (i := 6) (a0s a1R (a0o a0R Z.b_abs PyProof.Rows.boot_abs (a0a (hv 5) a0e)) a0f) a2m.nd) (a0c (a0M (i := 7) (h_ix (hv 4) (hv 6)) a2m.nd) (a0c (a0M (i := 8) (h_ix (hv 4) (a0s a0A (hv 6) a0f)) a2m.nd) (a0j (s_if (a0t a3v (hv 5) a0f (a0n _)) (a0c (a4s (hv 8) (a5P (hv 4) (hv 6))) (a0j (a4s (h_ix (h_ix (hv 0) (hv 7)) (hv 8)) (a5P (hv 4) (a0s a0A (hv 6) a0f))))) (a0c (a4s (b9G hr.units (hv 1) (a0a (hv 8) (a0a (hv 7) a0e))) (a5P (hv 4) (hv 6))) (a0j (a4s (hv 7) (a5P (hv 4) (a0s a0A (hv 6) a0f))))))))))) (a0j (a0C (a1S a1T Z.b_tuple PyProof.Rows.boot_tuple (a0a (hv 4) a0e)))))), fun ts M Q h => ?_⟩
 unfold a3A at h
 split at h
 ·rename_i t p w c
  obtain ⟨tab, ws, cs, kvs, rfl, rfl, rfl, hM, ht, hC, hw, hc, lw, lc, h⟩ := h
  have ok := a4C ht
  have l7 := ok.l7
  refine a0g fun K1 hK1 => ?_
  walk_at "rd"
  intro q hq
  rw [hK1]
  clear hK1
  have hpq : p ≠ q := fun z => by rw [← z, hM] at hq; cases hq
  refine a0g fun K2 hK2 => ?_
  refine a1K fun B1 hB1 => ?_
  unfold a3Q
  walk_at "rd"
  have hM1 : ∀ x : MO, (updM M q x) p = some (.dt kvs) := fun x => by rw [a0k hpq]; exact hM
  refine ⟨fun i ρ M' => ∃ x1 x2 x3 x4, ρ = [some (T.tup (List.map tupT tab)), some (T.adr p), some (T.tup (List.map T.int ws)), some (T.tup (List.map T.int cs)), some (T.adr q), x1, x2, x3, x4] ∧ M' = updM M q (MO.lst ((dn tab (ws.take i) cs).map .int)), ⟨_, _, _, _, rfl, rfl⟩, fun _ _ _ _ => trivial, ?_, ?_⟩
  ·rintro i x ρ M' hx ⟨x1, x2, x3, x4, rfl, rfl⟩
   obtain ⟨l, hx2, rfl⟩ := a0B hx
   have hl := hw l (List.mem_of_getElem? hx2)
   obtain ⟨hl1, hl2⟩ := hl
   have hin : InA tab.length (dn tab (ws.take i) cs) := b1R ok (WordOK.take hw i) hc
   have hlen : (dn tab (ws.take i) cs).length = cs.length := a3g ..
   have hdn := b6T tab hx2 cs
   dsimp only
   rw [hdn]
   generalize dn tab (ws.take i) cs = ds at hin hlen ⊢
   rw [hB1]
   clear hB1
   obtain ⟨k, hk⟩ : ∃ k : Nat, l.natAbs = k + 1 := ⟨l.natAbs - 1, by lia⟩
   have hg1 : InM tab.length (gI ds k) := hin _ (by unfold gI; rw [Int.toNat_natCast, List.getD_eq_getElem?_getD, List.getElem?_eq_getElem (by lia)]; exact List.getElem_mem _)
   have hg2 : InM tab.length (gI ds (k + 1)) := hin _ (by unfold gI; rw [show ((k : Int) + 1).toNat = k + 1 by lia, List.getD_eq_getElem?_getD, List.getElem?_eq_getElem (by lia)]; exact List.getElem_mem _)
   have a1 : atI (ds.map T.int) (k : Int) = some (.int (gI ds k)) := b1O (by lia) (by lia)
   have a2 : atI (ds.map T.int) ((k : Int) + 1) = some (.int (gI ds (k + 1))) := b1O (by lia) (by lia)
   rw [b8K hk (by lia)]
   walk_at "rd"
   rw [hk, show ((k + 1 : Nat) : Int) - 1 = (k : Int) by lia, a1]
   dsimp only
   rw [a2]
   dsimp only
   have i1 : ixN ds.length (k : Int) = some k := a4I (k := (k : Int)) (by lia) (by lia)
   have i2 : ixN ((ds.map T.int).set k (.int (pr1 tab l (gI ds k) (gI ds (k + 1))))).length ((k : Int) + 1) = some (k + 1) := by
    rw [List.length_set, List.length_map]; exact a4I (k := (k : Int) + 1) (by lia) (by lia)
   refine ite2 (fun pos => ?_) (fun pos => ?_)
   ·rw [show pr1 tab l (gI ds k) (gI ds (k + 1)) = gI ds (k + 1) from if_pos pos] at i2 ⊢
    rw [show pr2 tab l (gI ds k) (gI ds (k + 1)) = g2 tab (gI ds k) (gI ds (k + 1)) from if_pos pos, i1]
    dsimp only
    rw [(a5l ok.rows hg1).1]
    dsimp only
    rw [b0w ok.rows hg1 hg2]
    dsimp only
    rw [i2]
    exact ⟨_, _, _, _, rfl, rfl⟩
   ·rw [show pr1 tab l (gI ds k) (gI ds (k + 1)) = iv tab (gI ds (k + 1)) (gI ds k) from if_neg pos] at i2 ⊢
    rw [show pr2 tab l (gI ds k) (gI ds (k + 1)) = gI ds k from if_neg pos, i1]
    dsimp only
    have hv := hC _ _ (ok.iv_spec hg2 hg1).1 hg1
    rw [(ok.iv_spec hg2 hg1).2] at hv
    refine ⟨by decide, ?_⟩
    rw [hM1]
    dsimp only
    refine ⟨[.inl (gI ds (k + 1)), .inl (gI ds k)], _, rfl, hv, ?_⟩
    rw [i2]
    exact ⟨_, _, _, _, rfl, rfl⟩
  ·rintro ρ M' ⟨x1, x2, x3, x4, rfl, rfl⟩
   rw [hK2]
   walk_at "rd"
   rw [List.take_length]
   exact a0v h (Sub.new hq)
 ·exact h.elim
noncomputable def a3E : Sp3 := fun ts M Q => match ts with
 | [.int m, .int k] => 1 ≤ m ∧ 0 ≤ k ∧ k ≤ 6 ∧ m ≤ 7 ∧ m.toNat ^ k.toNat ≤ 2500 ∧ ∀ r, M r = none → Q (.adr r) (updM M r (.lst ((alR m k.toNat).map tupT)))
 | _ => False
theorem a9U {P : Program} {w : World} {K : PySem.W.Frag} {mg : Str → Option Value} {base : Heap} {f : Addr} {fd : FuncData} {n : Nat}  (F : Fun K "all_rows" "all_rows" a2q f fd) (hm : mg "all_rows" = some (.ref f)) (hb : a1f K fd ["many", "places"] []) (Z : Zs mg)  : Df P w K mg base (n + 1) "all_rows" ["many", "places"] a3E := by
 obtain ⟨tk_MOST_ROWS, c_MOST_ROWS⟩ := Z.c_MOST_ROWS
 refine F.dfn hm hb a2n (by intro ts M Q h; unfold a3E at h; first | (split at h <;> first | rfl | exact h.elim) | (obtain ⟨_, _, _, _, _, rfl, _⟩ := h; rfl) | (obtain ⟨_, _, _, _, rfl, _⟩ := h; rfl) | (obtain ⟨_, _, _, rfl, _⟩ := h; rfl) | (obtain ⟨_, _, rfl, _⟩ := h; rfl) | (obtain ⟨_, rfl, _⟩ := h; rfl)) ⟨_, fun cdv A outer s H E hr => (a0c (a0M (i := 2) (a2A (@a1p _ _ _ _ _ _ _ (a1A a0e) a0e)) a2n.nd) (a0c (a4r PassesOwn.never rfl (a1v Z.b_range (a0a (hv 1) a0e)) (a0Z (i := 3) a2n.nd) (a0c (s_if (a0t a3v (a0s a0V (a0o a0u Z.b_len PySem.boot_len (a0a (hv 2) a0e)) (hv 0)) (a6x c_MOST_ROWS) (a0n _)) (a0j a7G) a0D) (a0c (a0M (i := 4) (a2A a0e) a2n.nd) (a0c (a4r PassesOwn.never rfl (a4J (hv 2)) (a0Z (i := 5) a2n.nd) (a0j (a5B (a7m (hv 4) (a0a (a2B rfl (a1v Z.b_range (a0a (hv 0) a0e)) (a0F (outer := a0b a2q) (N := ["many", "places", "rows", "place", "longer", "row"]) (N' := ["colour", "row"]) (ix := [none, some 5]) (by decide +kernel) rfl rfl) a1o (fun _ _ _ _ _ => a0S (i := 0) (show List.Nodup (["colour", "row"] : List Str) by decide +kernel) rfl (Or.inl rfl) (Or.inr rfl)) (fun _ _ _ _ _ => a2K) (fun _ _ _ _ _ => (a0s a0A (hv 1) (a1A (a0a (hv 0) a0e))))) a0e))))) (a0j (a0M (i := 2) (hv 4) a2n.nd)))))) (a0j (a0C (hv 2))))), fun ts M Q h => ?_⟩
 unfold a3E at h
 split at h
 ·rename_i m k
  obtain ⟨h1, k0, k6, h7, hb, h⟩ := h
  refine a0g fun K1 hK1 => ?_
  walk_at "rd"
  refine ⟨by decide, fun q hq => ?_⟩
  rw [hK1]
  clear hK1
  refine a0g fun K2 hK2 => ?_
  refine a1K fun B hB => ?_
  unfold a3Q
  walk_at "rd"
  refine ⟨by lia, by lia, fun i ρ M' => ∃ x1 x2 x3 d, ρ = [some (T.int m), some (T.int k), some (T.adr d), x1, x2, x3] ∧ M d = none ∧ M' d = some (.lst ((alR m i).map tupT)) ∧ Sub M M', ⟨_, _, _, q, rfl, hq, a0d, Sub.new hq⟩, fun _ _ _ _ => trivial, ?_, ?_⟩
  ·rintro i x ρ M' hx ⟨x1, x2, x3, d, rfl, hd0, hd, hS⟩
   have hi : i < k.toNat := by have := (List.getElem?_eq_some_iff.mp hx).1; rwa [a0i] at this
   have hp1 : m.toNat ^ i ≤ m.toNat ^ k.toNat := Nat.pow_le_pow_right (by lia) (by lia)
   have hp2 : m.toNat ^ (i + 1) ≤ m.toNat ^ k.toNat := Nat.pow_le_pow_right (by lia) (by lia)
   have l1 := a8u m i
   have l2 := a8u m (i + 1)
   rw [hB]
   clear hB
   refine a2g fun K3 hK3 => ?_
   walk_at "rd"
   rw [hd]
   dsimp only
   have hno : ¬ (2500 : Int) < (((alR m i).map tupT).length : Nat) * m := by
    rw [List.length_map, l1]
    have e1 : ((m.toNat ^ i : Nat) : Int) * m = ((m.toNat ^ (i + 1) : Nat) : Int) := by
     rw [Nat.pow_succ]
     obtain ⟨k, rfl⟩ := Int.eq_ofNat_of_zero_le (show 0 ≤ m by lia)
     rw [Int.toNat_natCast]
     exact (Int.natCast_mul _ _).symm
    rw [e1]
    lia
   refine ⟨by unfold CMul; right; constructor <;> lia, ?_⟩
   rw [if_neg hno]
   intro e he
   have hde : d ≠ e := fun z => by rw [← z, hd] at he; cases he
   have he0 : M e = none := by
    cases q : M e with
    | none => rfl
    | some o => rw [hS _ _ q] at he; cases he
   rw [hK3]
   clear hK3
   refine a0g fun K4 hK4 => ?_
   refine a1K fun B2 hB2 => ?_
   unfold a3Q
   walk_at "rd"
   rw [a0k hde, hd]
   dsimp only
   refine ⟨fun j ρ M2 => (∃ x1, ρ = [some (T.int m), some (T.int k), some (T.adr d), some x, some (T.adr e), x1]) ∧ M2 d = some (.lst ((alR m i).map tupT)) ∧ M2 e = some (.lst ((((alR m i).take j).flatMap (a4H m)).map tupT)) ∧ Sub M M2, ⟨⟨_, rfl⟩, by rw [a0k hde]; exact hd, a0d, hS.newr he⟩, ?_, ?_, ?_⟩
   ·rintro j ρ M2 ⟨_, h2, _⟩
    exact h2
   ·rintro j y ρ M2 hy ⟨⟨x4, rfl⟩, hd2, he2, hS2⟩
    obtain ⟨row, hy2, rfl⟩ := a4p hy
    have hrow := a6M (List.mem_of_getElem? hy2)
    rw [hB2]
    clear hB2
    walk_at "rd"
    rw [he2]
    refine ⟨trivial, by lia, by lia, fun c ys M3 => ys = ((a0l m).take c).map (fun c => tupT (row ++ [c])) ∧ M3 = M2, ⟨rfl, rfl⟩, fun _ _ _ _ => trivial, by rw [a0i]; exact a0E (by lia), ?_, ?_⟩
    ·rintro c z ys M3 hz ⟨rfl, rfl⟩
     rw [a1J] at hz
     obtain ⟨u, hz2, rfl⟩ := a0B hz
     unfold tupT
     dsimp only
     refine ⟨by decide, a1q (by rw [List.length_map]; simp only [List.length_cons, List.length_nil]; lia), ?_, rfl⟩
     rw [← a0H (fun c : Int => T.tup ((row ++ [c]).map T.int)) hz2, List.map_append]; rfl
    ·rintro ys M3 ⟨rfl, rfl⟩ p7 hp7
     have e1 : ((a0l m).take (a1j 0 m.toNat).length).map (fun c => tupT (row ++ [c])) = (a4H m row).map tupT := by
      rw [a0i, show m.toNat = (a0l m).length by rw [a0p], List.take_length]
      unfold a4H
      rw [List.map_map]; rfl
     rw [e1]
     have hS7 : Sub M3 (updM M3 p7 (MO.lst ((a4H m row).map tupT))) := Sub.new hp7
     generalize updM M3 p7 (MO.lst ((a4H m row).map tupT)) = M7 at hS7 ⊢
     rw [hS7 _ _ he2]
     dsimp only
     have hj : j < (alR m i).length := (List.getElem?_eq_some_iff.mp hy2).1
     refine ⟨a1q ?_, ⟨_, rfl⟩, by rw [a0k hde]; exact hS7 _ _ hd2, by rw [b4P hy2, List.map_append], (hS2.trans hS7).updF he0⟩
     rw [List.length_map, List.length_map, b0e, a8R, List.length_take, Nat.min_eq_left (by lia), ← Nat.succ_mul]
     have : (j + 1) * m.toNat ≤ m.toNat ^ i * m.toNat := Nat.mul_le_mul_right _ (by rw [← l1]; exact hj)
     rw [← Nat.pow_succ] at this
     exact Nat.lt_of_le_of_lt (Nat.le_trans this (Nat.le_trans hp2 hb)) (by decide)
   ·rintro ρ M2 ⟨⟨x4, rfl⟩, hd2, he2, hS2⟩
    rw [hK4]
    walk_at "rd"
    rw [List.length_map, List.take_length] at he2
    exact ⟨_, _, _, e, rfl, he0, he2, hS2⟩
  ·rintro ρ M' ⟨x1, x2, x3, d, rfl, hd0, hd, hS⟩
   rw [hK2]
   walk_at "rd"
   rw [a0i] at hd
   exact a0v (h d hd0) (hS.mk1 hd)
 ·exact h.elim
noncomputable def a5A (tab : List (List Int)) (ws : List Int) (n : Nat) : List (List Int) := (alR tab.length n).filter fun row => decide (dn tab ws row = row)
noncomputable def a2N : Sp3 := fun ts M Q => match ts with
 | [.tup t, .tup [.int n, .tup w]] => ∃ (tab : List (List Int)) (ws : List Int), t = tab.map tupT ∧ w = ws.map .int ∧ tabB tab = true ∧ PlOK n ws ∧ tab.length ^ n.toNat ≤ 2500 ∧ ∀ r, M r = none → Q (.adr r) (updM M r (.lst ((a5A tab ws n.toNat).map tupT)))
 | _ => False
theorem a7V {P : Program} {w : World} {K : PySem.W.Frag} {mg : Str → Option Value} {base : Heap} {f : Addr} {fd : FuncData} {n : Nat}  (F : Fun K "colourings" "colourings" a1y f fd) (hm : mg "colourings" = some (.ref f)) (hb : a1f K fd ["table", "plait"] []) (Z : Zs mg) (D_looked : Df P w K mg base n "looked" ["plait"] a3R) (D_looked_table : Df P w K mg base n "looked_table" ["table"] a2b) (D_undone : Df P w K mg base n "undone" ["table"] a4T) (D_all_rows : Df P w K mg base n "all_rows" ["many", "places"] a3E) (D_led_down : Df P w K mg base n "led_down" ["table", "colour_by", "word", "colours"] a3A) : Df P w K mg base (n + 1) "colourings" ["table", "plait"] a2N := by
 refine F.dfn hm hb a4U (by intro ts M Q h; unfold a2N at h; first | (split at h <;> first | rfl | exact h.elim) | (obtain ⟨_, _, _, _, _, rfl, _⟩ := h; rfl) | (obtain ⟨_, _, _, _, rfl, _⟩ := h; rfl) | (obtain ⟨_, _, _, rfl, _⟩ := h; rfl) | (obtain ⟨_, _, rfl, _⟩ := h; rfl) | (obtain ⟨_, rfl, _⟩ := h; rfl)) ⟨_, fun cdv A outer s H E hr => (a0c (a5B (a0q D_looked hr (a0a (hv 1) a0e))) (a0c (a5B (a0q D_looked_table hr (a0a (hv 0) a0e))) (a0c (a0M (i := 2) (a0q D_undone hr (a0a (hv 0) a0e)) a4U.nd) (a0j (a0C (a2B rfl (a4J (a0q D_all_rows hr (a0a (a0o a0u Z.b_len PySem.boot_len (a0a (hv 0) a0e)) (a0a (h_ix (hv 1) a0f) a0e)))) (a0F (outer := a0b a1y) (N := ["table", "plait", "colour_by"]) (N' := ["row", "table", "colour_by", "plait"]) (ix := [none, some 0, some 2, some 1]) (by decide +kernel) rfl rfl) a1o (fun _ _ _ _ _ => a0S (i := 0) (show List.Nodup (["row", "table", "colour_by", "plait"] : List Str) by decide +kernel) rfl (Or.inl rfl) (Or.inr rfl)) (fun _ _ _ _ _ => a8y (a0t (a0Y hr.units) (a0q D_led_down hr (a0a (hv 1) (a0a (hv 2) (a0a (h_ix (hv 3) a0f) (a0a (hv 0) a0e))))) (hv 0) (a0n _))) (fun _ _ _ _ _ => (hv 0)))))))), fun ts M Q h => ?_⟩
 unfold a2N at h
 split at h
 ·rename_i t n w
  obtain ⟨tab, ws, rfl, rfl, ht, ok, hb, h⟩ := h
  obtain ⟨n1, n6, hl, hw⟩ := ok
  have tok := a4C ht
  have l1 := tok.l1
  have l7 := tok.l7
  refine a3j fun K1 hK1 => ?_
  walk_at "rd"
  refine ⟨ws, rfl, ⟨n1, n6, hl, hw⟩, tab, rfl, ht, tab, rfl, ht, fun kvs q hC hq => ?_⟩
  have hMq : (updM M q (.dt kvs)) q = some (.dt kvs) := a0d
  have hS : Sub M (updM M q (.dt kvs)) := Sub.new hq
  generalize updM M q (.dt kvs) = M1 at hMq hS ⊢
  rw [hK1]
  clear hK1
  walk_at "rd"
  refine ⟨by lia, by lia, by lia, by lia, by rw [Int.toNat_natCast]; exact hb, fun r hr => ?_⟩
  have hrq : q ≠ r := fun z => by rw [← z, hMq] at hr; cases hr
  have hMr : (updM M1 r (.lst ((alR tab.length n.toNat).map tupT))) r = some (.lst ((alR tab.length n.toNat).map tupT)) := a0d
  have hMq2 : (updM M1 r (.lst ((alR tab.length n.toNat).map tupT))) q = some (.dt kvs) := by rw [a0k hrq]; exact hMq
  have hS2 := hS.newr hr (o := .lst ((alR tab.length n.toNat).map tupT))
  generalize updM M1 r (.lst ((alR tab.length n.toNat).map tupT)) = M2 at hMr hMq2 hS2 ⊢
  have hal := a8u (tab.length : Int) n.toNat
  rw [Int.toNat_natCast] at hal
  dsimp only
  rw [hMr]
  dsimp only
  refine ⟨fun i ys M' => ys = (((alR tab.length n.toNat).take i).filter fun row => decide (dn tab ws row = row)).map tupT ∧ M' = M2, ⟨rfl, rfl⟩, ?_, by rw [List.length_map]; exact a0E (by lia), ?_, ?_⟩
  ·rintro i ys M' ⟨_, rfl⟩
   exact hMr
  ·rintro i x ys M' hx ⟨rfl, rfl⟩
   obtain ⟨row, hx2, rfl⟩ := a4p hx
   obtain ⟨hrl, hri⟩ := a6M (List.mem_of_getElem? hx2)
   refine ⟨tab, ws, row, kvs, rfl, rfl, rfl, hMq2, ht, hC, ?_, hri, by lia, by lia, ?_⟩
   ·rw [hrl, show ((n.toNat : Nat) : Int) = n by lia]; exact hw
   dsimp only
   rw [a9e (fun row => decide (dn tab ws row = row)) hx2]
   refine ⟨by rw [a6g, a3e], by unfold tupT; rw [a6g, a3e], by rw [b0V, a5x]; decide, ?_⟩
   rw [show eqT (.tup ((dn tab ws row).map T.int)) (tupT row) = decide (dn tab ws row = row) by unfold tupT; rw [b3r, a6C]]
   by_cases z : dn tab ws row = row
   ·rw [decide_eq_true z, if_pos rfl, if_pos rfl, List.map_append]
    exact ⟨rfl, rfl⟩
   ·rw [decide_eq_false z, if_neg (by decide), if_neg (by decide), List.append_nil]
    exact ⟨rfl, rfl⟩
  ·rintro ys M' ⟨rfl, rfl⟩ p hp
   rw [List.length_map, List.take_length]
   have hp0 : M p = none := by
    cases e : M p with
    | none => rfl
    | some o => rw [hS2 _ _ e] at hp; cases hp
   refine a0v (h p hp0) ?_
   exact (hS2.newr hp).mk1 a0d
 ·exact h.elim
noncomputable def oddP (p : Int) : Bool := decide (3 ≤ p) && decide (p ≤ 97) && ((List.range (p - 2).toNat).all fun i => decide (p % (2 + (i : Nat)) ≠ 0))
noncomputable def a2c : Sp3 := fun ts M Q => match ts with
 | [.int p] => Q (.bl (oddP p)) M
 | _ => False
theorem a6j {P : Program} {w : World} {K : PySem.W.Frag} {mg : Str → Option Value} {base : Heap} {f : Addr} {fd : FuncData} {n : Nat}  (F : Fun K "is_odd_prime" "is_odd_prime" a1b f fd) (hm : mg "is_odd_prime" = some (.ref f)) (hb : a1f K fd ["number"] []) (Z : Zs mg)  : Df P w K mg base (n + 1) "is_odd_prime" ["number"] a2c := by
 obtain ⟨tk_MOST_PRIME, c_MOST_PRIME⟩ := Z.c_MOST_PRIME
 refine F.dfn hm hb a6b (by intro ts M Q h; unfold a2c at h; first | (split at h <;> first | rfl | exact h.elim) | (obtain ⟨_, _, _, _, _, rfl, _⟩ := h; rfl) | (obtain ⟨_, _, _, _, rfl, _⟩ := h; rfl) | (obtain ⟨_, _, _, rfl, _⟩ := h; rfl) | (obtain ⟨_, _, rfl, _⟩ := h; rfl) | (obtain ⟨_, rfl, _⟩ := h; rfl)) ⟨_, fun cdv A outer s H E hr => (a0c (s_if (b1M (b0O a5b a5b a0f (hv 0) (a6x c_MOST_PRIME))) (a0j (a0C h_bl)) a0D) (a0j (a0C (a0o (a5h rfl) Z.b_all PyProof.Rows.boot_all (a0a (a2B rfl (b0N Z.b_range (a0a a0f (a0a (hv 0) a0e))) (a0F (outer := a0b a1b) (N := ["number"]) (N' := ["other", "number"]) (ix := [none, some 0]) (by decide +kernel) rfl rfl) a1o (fun _ _ _ _ _ => a0S (i := 0) (show List.Nodup (["other", "number"] : List Str) by decide +kernel) rfl (Or.inl rfl) (Or.inr rfl)) (fun _ _ _ _ _ => a2K) (fun _ _ _ _ _ => (a5w (a3U hr.units) (a0s a2u (hv 1) (hv 0)) a0f (a0n _)))) a0e))))), fun ts M Q h => ?_⟩
 unfold a2c at h
 split at h
 ·rename_i p
  unfold oddP at h
  walk_at "rd"
  refine ite2 (fun c1 => ite2 (fun c2 => ?_) (fun c2 => ?_)) (fun c1 => ?_)
  ·rw [decide_eq_false c2, Bool.and_false, Bool.false_and] at h
   exact a0m h
  ·rw [decide_eq_true c1, decide_eq_true (show p ≤ 97 by lia)] at h
   refine ⟨⟨by decide, by decide, by lia, by lia⟩, fun i ys M' => ys = ((List.range i).map fun i : Nat => decide (p % (2 + (i : Int)) ≠ 0)).map T.bl ∧ M' = M, ⟨rfl, rfl⟩, fun _ _ _ _ => trivial, by rw [a0i]; exact a0E (by lia), ?_, ?_⟩
   ·rintro i x ys M' hx ⟨rfl, rfl⟩
    have hl := (List.getElem?_eq_some_iff.mp hx).1
    rw [a0i] at hl
    unfold a1j at hx
    rw [List.getElem?_map, List.getElem?_range hl] at hx
    obtain rfl := (Option.some.inj hx).symm
    refine ⟨by lia, ?_, rfl⟩
    rw [List.range_succ, List.map_append, List.map_append, ← decide_not]; rfl
   ·rintro ys M' ⟨rfl, rfl⟩ q hq
    rw [a0i, a4b]
    dsimp only
    refine a0v (M0 := M') ?_ (Sub.new hq)
    rw [List.all_map]
    exact h
  ·rw [decide_eq_false c1, Bool.false_and, Bool.false_and] at h
   exact a0m h
 ·exact h.elim
noncomputable def twL (a b : List Int) : List Int := List.zipWith (fun x y => 2 * x - y) a b
theorem b5E {a b : List Int} {i : Nat} {x y : Int} (hx : a[i]? = some x) (hy : b[i]? = some y) : (twL a b)[i]? = some (2 * x - y) := by
 unfold twL
 rw [List.getElem?_zipWith, hx, hy]
theorem a2w {α : Type} {L : List α} {i : Nat} {x : α} (h : L[i]? = some x) : L.take i ++ [x] = L.take (i + 1) := by
 rw [List.take_add_one, h]; rfl
noncomputable def a2M : Sp3 := fun ts M Q => match ts with
 | [.adr p, .adr q] => ∃ (a b : List Int), M p = some (.lst (a.map .int)) ∧ M q = some (.lst (b.map .int)) ∧ a.length = b.length ∧ a.length ≤ 6 ∧ ∀ r, M r = none → Q (.adr r) (updM M r (.lst ((twL a b).map .int)))
 | _ => False
theorem a7U {P : Program} {w : World} {K : PySem.W.Frag} {mg : Str → Option Value} {base : Heap} {f : Addr} {fd : FuncData} {n : Nat}  (F : Fun K "twice_less" "twice_less" a1x f fd) (hm : mg "twice_less" = some (.ref f)) (hb : a1f K fd ["row", "other"] []) (Z : Zs mg)  : Df P w K mg base (n + 1) "twice_less" ["row", "other"] a2M := by
 refine F.dfn hm hb a7F (by intro ts M Q h; unfold a2M at h; first | (split at h <;> first | rfl | exact h.elim) | (obtain ⟨_, _, _, _, _, rfl, _⟩ := h; rfl) | (obtain ⟨_, _, _, _, rfl, _⟩ := h; rfl) | (obtain ⟨_, _, _, rfl, _⟩ := h; rfl) | (obtain ⟨_, _, rfl, _⟩ := h; rfl) | (obtain ⟨_, rfl, _⟩ := h; rfl)) ⟨_, fun cdv A outer s H E hr => (a0j (a0C (a2B rfl (b8B Z.b_zip (a0a (hv 0) (a0a (hv 1) a0e))) (a0F (outer := a0b a1x) (N := ["row", "other"]) (N' := ["here", "there"]) (ix := [none, none]) (by decide +kernel) rfl rfl) b3L (fun _ _ _ _ _ => b2A rfl (a4Y (a0S (i := 0) (show List.Nodup (["here", "there"] : List Str) by decide +kernel) rfl (Or.inl rfl) (Or.inr rfl)) (a4Y (a0S (i := 1) (show List.Nodup (["here", "there"] : List Str) by decide +kernel) rfl (Or.inl rfl) (Or.inr rfl)) a9O))) (fun _ _ _ _ _ => a2K) (fun _ _ _ _ _ => (a0s a1R (a0s a0V a0f (hv 0)) (hv 1)))))), fun ts M Q h => ?_⟩
 unfold a2M at h
 split at h
 ·rename_i p q
  obtain ⟨a, b, hp, hq, hl, h6, h⟩ := h
  walk_at "rd"
  rw [hp, hq]
  dsimp only
  refine ⟨by rw [List.length_map, List.length_map, hl], fun i ys M' => ys = ((twL a b).take i).map T.int ∧ M' = M, ⟨rfl, rfl⟩, ?_, by rw [a5S (by rw [List.length_map, List.length_map, hl]), List.length_map]; exact a0E (by lia), ?_, ?_⟩
  ·rintro i ys M' ⟨_, rfl⟩
   exact ⟨hp, hq⟩
  ·rintro i x ys M' hx ⟨rfl, rfl⟩
   obtain ⟨t, u, ht, hu, rfl⟩ := a9x hx
   obtain ⟨x, hx2, rfl⟩ := a0B ht
   obtain ⟨y, hy2, rfl⟩ := a0B hu
   walk_at "rd"
   refine ⟨by unfold CMul; exact .inl (by decide), ?_⟩
   rw [← a2w (b5E hx2 hy2), List.map_append]; rfl
  ·rintro ys M' ⟨rfl, rfl⟩ r hr
   rw [a5S (by rw [List.length_map, List.length_map, hl]), List.length_map, List.take_of_length_le (by unfold twL; rw [List.length_zipWith]; exact Nat.min_le_left _ _)]
   exact a0m (h r hr)
 ·exact h.elim
noncomputable def Fr (M : MH) (as : List Addr) : Prop := ∀ a ∈ as, M a = none
theorem Fr.set {M : MH} {as : List Addr} {j : Nat} {x : Addr} (h : Fr M as) (hx : M x = none) : Fr M (as.set j x) := fun b hb => by
 rcases List.mem_or_eq_of_mem_set hb with z | rfl
 ·exact h b z
 ·exact hx
theorem Sub.none {M M' : MH} {q : Addr} (s : Sub M M') (h : M' q = none) : M q = none := by
 cases e : M q with
 | none => rfl
 | some o => rw [s _ _ e] at h; cases h
theorem a7f {α : Type} {as : List α} {j k : Nat} {x y r : α} (h : r ∉ as) (hx : x ≠ r) (hy : y ≠ r) : r ∉ (as.set j x).set k y := fun z => by
 rcases List.mem_or_eq_of_mem_set z with z | z
 ·rcases List.mem_or_eq_of_mem_set z with z | z
  ·exact h z
  ·exact hx z.symm
 ·exact hy z.symm
theorem a9W {α : Type} {as : List α} {p : α} (h : as.Nodup) (hp : p ∉ as) : (as ++ [p]).Nodup := List.nodup_append.mpr ⟨h, List.pairwise_singleton _ _, fun a ha b hb e => by rw [List.mem_singleton.mp hb] at e; exact hp (by rw [← e]; exact ha)⟩
noncomputable def a1M : Sp3 := fun ts M Q => match ts with
 | [.tup [.int n, .tup w]] => ∃ ws : List Int, w = ws.map .int ∧ PlOK n ws ∧ ∀ r as M', M r = none → Sub M M' → M' r = some (.lst (as.map T.adr)) → a1g M' as (shL (unR n.toNat) ws) → as.Nodup → Fr M as → Q (.adr r) M'
 | _ => False
theorem a5K {P : Program} {w : World} {K : PySem.W.Frag} {mg : Str → Option Value} {base : Heap} {f : Addr} {fd : FuncData} {n : Nat}  (F : Fun K "shares_behind" "shares_behind" a0L f fd) (hm : mg "shares_behind" = some (.ref f)) (hb : a1f K fd ["plait"] []) (Z : Zs mg) (D_twice_less : Df P w K mg base n "twice_less" ["row", "other"] a2M) : Df P w K mg base (n + 1) "shares_behind" ["plait"] a1M := by
 refine F.dfn hm hb a0W (by intro ts M Q h; unfold a1M at h; first | (split at h <;> first | rfl | exact h.elim) | (obtain ⟨_, _, _, _, _, rfl, _⟩ := h; rfl) | (obtain ⟨_, _, _, _, rfl, _⟩ := h; rfl) | (obtain ⟨_, _, _, rfl, _⟩ := h; rfl) | (obtain ⟨_, _, rfl, _⟩ := h; rfl) | (obtain ⟨_, rfl, _⟩ := h; rfl)) ⟨_, fun cdv A outer s H E hr => (a0c (a0M (i := 1) (h_ix (hv 0) a0f) a0W.nd) (a0c (b0B (i := 2) rfl (a1v Z.b_range (a0a (hv 1) a0e)) (a0F (outer := a0b a0L) (N := ["plait", "strands", "rows", "letter", "at", "pair"]) (N' := ["place", "strands"]) (ix := [none, some 1]) (by decide +kernel) rfl rfl) a1o (fun _ _ _ _ _ => a0S (i := 0) (show List.Nodup (["place", "strands"] : List Str) by decide +kernel) rfl (Or.inr rfl) (Or.inl rfl)) (fun _ _ _ _ _ => a2K) (fun _ _ _ _ _ => (a2B rfl (a1v Z.b_range (a0a (hv 1) a0e)) (a7v (outer := a0b a0L) (N := ["place", "strands"]) (N' := ["other", "place"]) (ix := [none, some 0]) (by decide +kernel) rfl rfl) a1o (fun _ _ _ _ _ => a0S (i := 0) (show List.Nodup (["other", "place"] : List Str) by decide +kernel) rfl (Or.inl rfl) (Or.inr rfl)) (fun _ _ _ _ _ => a2K) (fun _ _ _ _ _ => (a1S a3i Z.b_int PyProof.Rows.boot_int (a0a (a5w (a0Y hr.units) (hv 1) (hv 0) (a0n _)) a0e))))) a0W.nd) (a0c (a4r PassesOwn.never rfl (a4J (h_ix (hv 0) a0f)) (a0Z (i := 3) a0W.nd) (a0c (a0M (i := 4) (a0s a1R (a0o a0R Z.b_abs PyProof.Rows.boot_abs (a0a (hv 3) a0e)) a0f) a0W.nd) (a0c (a0M (i := 5) (a2A (a0a (h_ix (hv 2) (hv 4)) (a0a (h_ix (hv 2) (a0s a0A (hv 4) a0f)) a0e))) a0W.nd) (a0j (s_if (a0t a3v (hv 3) a0f (a0n _)) (a0c (a4s (h_ix (hv 5) a0f) (a5P (hv 2) (hv 4))) (a0j (a4s (a0q D_twice_less hr (a0a (h_ix (hv 5) a0f) (a0a (h_ix (hv 5) a0f) a0e))) (a5P (hv 2) (a0s a0A (hv 4) a0f))))) (a0c (a4s (a0q D_twice_less hr (a0a (h_ix (hv 5) a0f) (a0a (h_ix (hv 5) a0f) a0e))) (a5P (hv 2) (hv 4))) (a0j (a4s (h_ix (hv 5) a0f) (a5P (hv 2) (a0s a0A (hv 4) a0f)))))))))) (a0j (a0C (hv 2)))))), fun ts M Q h => ?_⟩
 unfold a1M at h
 split at h
 ·rename_i n w
  obtain ⟨ws, rfl, ⟨n1, n6, hl, hw⟩, h⟩ := h
  have hwn : WordOK (n.toNat : Nat) ws := by rw [show ((n.toNat : Nat) : Int) = n by lia]; exact hw
  refine a2g fun K1 hK1 => ?_
  walk_at "rd"
  refine ⟨by lia, by lia, fun i ys M' => (∃ as : List Addr, ys = as.map T.adr ∧ as.length = i ∧ Fr M as ∧ as.Nodup ∧ a1g M' as ((unR n.toNat).take i)) ∧ Sub M M', ⟨⟨[], rfl, rfl, fun _ z => absurd z List.not_mem_nil, .nil, a1g.nil⟩, Sub.refl⟩, fun _ _ _ _ => trivial, by rw [a0i]; exact a0E (by lia), ?_, ?_⟩
  ·rintro i x ys M' hx ⟨⟨as, rfl, hal, hfr, hnd, has⟩, hS⟩
   obtain ⟨hi, rfl⟩ := a1Q hx
   have hun := b5C hi
   refine ⟨by lia, by lia, fun j zs M2 => zs = (((List.range n.toNat).map fun j => if i = j then (1 : Int) else 0).take j).map T.int ∧ M2 = M', ⟨rfl, rfl⟩, fun _ _ _ _ => trivial, by rw [a0i]; exact a0E (by lia), ?_, ?_⟩
   ·rintro j y zs M2 hy ⟨rfl, rfl⟩
    obtain ⟨hj, rfl⟩ := a1Q hy
    dsimp only
    refine ⟨by rw [a4X], by rw [a4X], by rw [a5f]; decide, ?_⟩
    refine ⟨?_, rfl⟩
    have ej : ((List.range n.toNat).map fun j => if i = j then (1 : Int) else 0)[j]? = some (if i = j then 1 else 0) := by
     rw [List.getElem?_map, List.getElem?_range hj]; rfl
    rw [← a2w ej, List.map_append, a3q]
    by_cases z : i = j
    ·rw [if_pos z, if_pos (decide_eq_true (by rw [z]))]; rfl
    ·rw [if_neg z, if_neg (by rw [decide_eq_true_eq]; lia)]; rfl
   ·rintro zs M2 ⟨rfl, rfl⟩ p hp
    rw [a0i, List.take_of_length_le (by rw [List.length_map, List.length_range]; exact Nat.le_refl _)]
    have hX := Sub.new hp (o := MO.lst (((List.range n.toNat).map fun j => if i = j then (1 : Int) else 0).map T.int))
    refine ⟨⟨as ++ [p], by rw [List.map_append]; rfl, by rw [List.length_append, hal]; rfl, fun a ha => ?_, a9W hnd (has.fresh hp), ?_⟩, hS.trans hX⟩
    ·rcases List.mem_append.mp ha with z | z
     ·exact hfr a z
     ·rw [List.mem_singleton.mp z]; exact hS.none hp
    ·rw [← a2w hun]
     exact (has.sub hX).snoc a0d
  ·rintro ys M' ⟨⟨as, rfl, hal, hfr, hnd, has⟩, hS⟩ r hr
   rw [a0i, List.take_of_length_le (by rw [b1Y]; exact Nat.le_refl _)] at has
   have hX := Sub.new hr (o := MO.lst (as.map T.adr))
   have hr0 : M r = none := hS.none hr
   have hok : a1g (updM M' r (MO.lst (as.map T.adr))) as (shL (unR n.toNat) (ws.take 0)) := has.sub hX
   have hMr : (updM M' r (MO.lst (as.map T.adr))) r = some (.lst (as.map T.adr)) := a0d
   have hS1 := hS.trans hX
   generalize updM M' r (MO.lst (as.map T.adr)) = M1 at hok hMr hS1 ⊢
   clear hX hr has hS
   rw [hK1]; clear hK1
   refine a0g fun K2 hK2 => ?_
   refine a1K fun B hB => ?_
   unfold a3Q
   walk_at "rd"
   refine ⟨fun i ρ M2 => (∃ x1 x2 x3, ρ = [some (T.tup [T.int n, T.tup (List.map T.int ws)]), some (T.int n), some (T.adr r), x1, x2, x3]) ∧ (∃ as : List Addr, M2 r = some (.lst (as.map T.adr)) ∧ a1g M2 as (shL (unR n.toNat) (ws.take i)) ∧ as.Nodup ∧ Fr M as) ∧ Sub M M2, ⟨⟨_, _, _, rfl⟩, ⟨as, hMr, hok, hnd, hfr⟩, hS1⟩, fun _ _ _ _ => trivial, ?_, ?_⟩
   ·rintro i x ρ M2 hx ⟨⟨x1, x2, x3, rfl⟩, ⟨as, hMr, hok, hnd, hfr⟩, hS⟩
    obtain ⟨l, hx2, rfl⟩ := a0B hx
    obtain ⟨hl1, hl2⟩ := hw l (List.mem_of_getElem? hx2)
    obtain ⟨k, hk⟩ : ∃ k : Nat, l.natAbs = k + 1 := ⟨l.natAbs - 1, by lia⟩
    have hrb := b2n (b5c n.toNat) (ws := ws.take i) fun y hy => hwn y (List.mem_of_mem_take hy)
    have hsn : shL (unR n.toNat) (ws.take (i + 1)) = sh1 (shL (unR n.toNat) (ws.take i)) l := by rw [← a2w hx2, b4d]
    generalize shL (unR n.toNat) (ws.take i) = R at hok hrb hsn
    have hal := hok.1.trans hrb.1
    obtain ⟨a, ea⟩ : ∃ a, as[k]? = some a := ⟨_, List.getElem?_eq_getElem (by lia)⟩
    obtain ⟨b, eb⟩ : ∃ b, as[k + 1]? = some b := ⟨_, List.getElem?_eq_getElem (by lia)⟩
    have aa : atI (as.map T.adr) (k : Int) = some (.adr a) := a2k (by rw [List.getElem?_map, ea]; rfl)
    have ab : atI (as.map T.adr) ((k : Int) + 1) = some (.adr b) := by
     rw [show (k : Int) + 1 = ((k + 1 : Nat) : Int) by lia]
     exact a2k (by rw [List.getElem?_map, eb]; rfl)
    rw [hB]; clear hB
    refine a2g fun K3 hK3 => ?_
    walk_at "rd"
    rw [hk, show ((k + 1 : Nat) : Int) - 1 = (k : Int) by lia, hMr]
    dsimp only
    rw [aa, ab]
    dsimp only
    refine ⟨by decide, fun p hp => ?_⟩
    have hpr : p ≠ r := fun z => by rw [z, hMr] at hp; cases hp
    have hX := Sub.new hp (o := MO.lst [T.adr a, T.adr b])
    have hok2 := hok.sub hX
    have hMr2 := hX _ _ hMr
    have hMp : (updM M2 p (MO.lst [T.adr a, T.adr b])) p = some (.lst [T.adr a, T.adr b]) := a0d
    have hS2 := hS.trans hX
    generalize updM M2 p (MO.lst [T.adr a, T.adr b]) = M3 at hok2 hMr2 hMp hS2 ⊢
    clear hX hp hok hMr hS
    obtain ⟨ia, ra, ma⟩ := hok2.get ea
    obtain ⟨ib, rb, mb⟩ := hok2.get eb
    obtain ⟨la, ba⟩ := hrb.2 ia (List.mem_of_getElem? ra)
    obtain ⟨lb, bb⟩ := hrb.2 ib (List.mem_of_getElem? rb)
    have esh : sh1 R l = if l > 0 then (R.set k ib).set (k + 1) (tw2 ib ia) else (R.set k (tw2 ia ib)).set (k + 1) ia := by
     unfold sh1
     rw [hk, Nat.add_sub_cancel, List.getD_eq_getElem?_getD, List.getD_eq_getElem?_getD, ra, rb]; rfl
    rw [hK3]; clear hK3
    walk_at "rd"
    have hne : as ≠ [] := fun z => by rw [z] at ea; cases ea
    have hra := hok2.ne hMr2 hne
    have har : a ≠ r := fun z => hra (by rw [← z]; exact List.mem_of_getElem? ea)
    have hbr : b ≠ r := fun z => hra (by rw [← z]; exact List.mem_of_getElem? eb)
    rw [hMp]
    dsimp only
    rw [b5a, b1V]
    dsimp only
    have hkl : ((k : Nat) : Int) < ((as.map T.adr).length : Nat) := by rw [List.length_map]; lia
    have hkl2 : ((k : Nat) : Int) + 1 < ((as.map T.adr).length : Nat) := by rw [List.length_map]; lia
    refine ite2 (fun c => ?_) (fun c => ?_)
    ·rw [hMr2]
     dsimp only
     rw [a4I (by lia) hkl]
     dsimp only
     rw [show ((k : Nat) : Int).toNat = k by lia]
     have hok4 : a1g (updM M3 r (.lst ((as.map T.adr).set k (.adr b)))) as R := hok2.upd hra
     have mr2 : (updM M3 r (.lst ((as.map T.adr).set k (.adr b)))) r = some (.lst ((as.map T.adr).set k (.adr b))) := a0d
     have hS4 : Sub M (updM M3 r (.lst ((as.map T.adr).set k (.adr b)))) := hS2.updF hr0
     have ma2 : updM M3 r (.lst ((as.map T.adr).set k (.adr b))) a = some (.lst (ia.map .int)) := by rw [a0k har]; exact ma
     have mb2 : updM M3 r (.lst ((as.map T.adr).set k (.adr b))) b = some (.lst (ib.map .int)) := by rw [a0k hbr]; exact mb
     have hMp2 : updM M3 r (.lst ((as.map T.adr).set k (.adr b))) p = some (.lst [T.adr a, T.adr b]) := by rw [a0k hpr]; exact hMp
     rw [hMp2]
     dsimp only
     generalize updM M3 r (.lst ((as.map T.adr).set k (.adr b))) = M4 at mr2 hok4 hS4 ma2 mb2 ⊢
     rw [b5a, b1V]
     dsimp only
     refine ⟨ib, ia, mb2, ma2, by rw [la, lb], by lia, fun q hq => ?_⟩
     have hqr : q ≠ r := fun z => by rw [z, mr2] at hq; cases hq
     have hqas : q ∉ as := hok4.fresh hq
     dsimp only
     rw [a0k hqr.symm, mr2]
     dsimp only
     rw [a4I (by lia) (by rw [List.length_set, List.length_map]; lia)]
     dsimp only
     rw [show ((k : Nat) : Int) + 1 = ((k + 1 : Nat) : Int) by lia, show ((k + 1 : Nat) : Int).toNat = k + 1 by lia]
     have hX := Sub.new hq (o := .lst ((twL ib ia).map .int))
     have e2 : ((as.map T.adr).set k (T.adr b)).set (k + 1) (T.adr q) = ((as.set k b).set (k + 1) q).map T.adr := by rw [List.map_set, List.map_set]
     rw [esh, if_pos c] at hsn
     rw [e2]
     exact ⟨⟨_, _, _, rfl⟩, ⟨(as.set k b).set (k + 1) q, rfl, by rw [hsn]; exact a1g.upd (((hok4.sub hX).set (hX _ _ mb2)).set a0d) (a7f hra hbr hqr), a8O hnd eb hqas, (hfr.set (hfr b (List.mem_of_getElem? eb))).set (hS4.none hq)⟩, (hS4.newr hq).updF hr0⟩
    ·refine ⟨ia, ib, ma, mb, by rw [la, lb], by lia, fun q hq => ?_⟩
     have hqr : q ≠ r := fun z => by rw [z, hMr2] at hq; cases hq
     have hpq : p ≠ q := fun z => by rw [← z, hMp] at hq; cases hq
     have hqas : q ∉ as := hok2.fresh hq
     dsimp only
     rw [a0k hqr.symm, hMr2]
     dsimp only
     rw [a4I (by lia) hkl]
     dsimp only
     rw [show ((k : Nat) : Int).toNat = k by lia]
     have hX := Sub.new hq (o := .lst ((twL ia ib).map .int))
     have hok4 := (hok2.sub hX).upd hra (o := .lst ((as.map T.adr).set k (.adr q)))
     have hS4 := (hS2.newr hq (o := .lst ((twL ia ib).map .int))).updF hr0 (o := .lst ((as.map T.adr).set k (.adr q)))
     have haq : a ≠ q := fun z => by rw [← z, ma] at hq; cases hq
     have ma2 : updM (updM M3 q (.lst ((twL ia ib).map .int))) r (.lst ((as.map T.adr).set k (.adr q))) a = some (.lst (ia.map .int)) := by rw [a0k har, a0k haq]; exact ma
     have mq2 : updM (updM M3 q (.lst ((twL ia ib).map .int))) r (.lst ((as.map T.adr).set k (.adr q))) q = some (.lst ((twL ia ib).map .int)) := by rw [a0k hqr, a0d]
     have mr2 : updM (updM M3 q (.lst ((twL ia ib).map .int))) r (.lst ((as.map T.adr).set k (.adr q))) r = some (.lst ((as.map T.adr).set k (.adr q))) := a0d
     have hMp2 : updM (updM M3 q (.lst ((twL ia ib).map .int))) r (.lst ((as.map T.adr).set k (.adr q))) p = some (.lst [T.adr a, T.adr b]) := by rw [a0k hpr, a0k hpq]; exact hMp
     rw [hMp2]
     dsimp only
     generalize updM (updM M3 q (.lst ((twL ia ib).map .int))) r (.lst ((as.map T.adr).set k (.adr q))) = M4 at mr2 mq2 hok4 hS4 ma2 ⊢
     rw [b1V]
     dsimp only
     rw [a4I (by lia) (by rw [List.length_set, List.length_map]; lia)]
     dsimp only
     rw [show ((k : Nat) : Int) + 1 = ((k + 1 : Nat) : Int) by lia, show ((k + 1 : Nat) : Int).toNat = k + 1 by lia]
     have e2 : ((as.map T.adr).set k (T.adr q)).set (k + 1) (T.adr a) = ((as.set k q).set (k + 1) a).map T.adr := by rw [List.map_set, List.map_set]
     rw [esh, if_neg c] at hsn
     rw [e2]
     exact ⟨⟨_, _, _, rfl⟩, ⟨(as.set k q).set (k + 1) a, rfl, by rw [hsn]; exact a1g.upd (((hok2.sub hX).set a0d).set (hX _ _ ma)) (a7f hra hqr har), a8P hnd ea (by lia) hqas, (hfr.set (hS2.none hq)).set (hfr a (List.mem_of_getElem? ea))⟩, (hS2.newr hq).updF hr0⟩
   ·rintro ρ M2 ⟨⟨x1, x2, x3, rfl⟩, ⟨as, hMr, hok, hnd, hfr⟩, hS⟩
    rw [hK2]
    walk_at "rd"
    first | rw [List.length_map, List.take_length] at hok | rw [List.take_length] at hok
    refine a0m (h r as M2 hr0 hS hMr hok hnd hfr)
 ·exact h.elim
noncomputable def a4g : Sp3 := fun ts M Q => match ts with
 | [.adr p, .adr q, .int c, .int m] => ∃ (a b : List Int), M p = some (.lst (a.map .int)) ∧ M q = some (.lst (b.map .int)) ∧ a.length = b.length ∧ a.length ≤ 6 ∧ 0 ≤ c ∧ c < a.length ∧ 0 < m ∧ m ≤ 97 ∧ (∀ x ∈ a, x.natAbs ≤ 2 ^ 60) ∧ (∀ x ∈ b, x.natAbs ≤ 2 ^ 60) ∧ ∀ (r : Addr), M r = none → Q (.adr r) (updM M r (.lst ((clr m c.toNat a b).map .int)))
 | _ => False
theorem b8N {m : Int} {c i : Nat} {a b : List Int} {x y u v : Int} (hx : a[i]? = some x) (hy : b[i]? = some y) (hu : a[c]? = some u) (hv : b[c]? = some v) : (clr m c a b)[i]? = some ((x * v - y * u) % m) := by
 unfold clr
 rw [List.getElem?_zipWith, hx, hy, List.getD_eq_getElem?_getD, List.getD_eq_getElem?_getD, hu, hv]; rfl
theorem b1z {P : Program} {w : World} {K : PySem.W.Frag} {mg : Str → Option Value} {base : Heap} {f : Addr} {fd : FuncData} {n : Nat}  (F : Fun K "cleared" "cleared" a3d f fd) (hm : mg "cleared" = some (.ref f)) (hb : a1f K fd ["row", "first", "column", "prime"] []) (Z : Zs mg)  : Df P w K mg base (n + 1) "cleared" ["row", "first", "column", "prime"] a4g := by
 refine F.dfn hm hb b1p (by intro ts M Q h; unfold a4g at h; first | (split at h <;> first | rfl | exact h.elim) | (obtain ⟨_, _, _, _, _, rfl, _⟩ := h; rfl) | (obtain ⟨_, _, _, _, rfl, _⟩ := h; rfl) | (obtain ⟨_, _, _, rfl, _⟩ := h; rfl) | (obtain ⟨_, _, rfl, _⟩ := h; rfl) | (obtain ⟨_, rfl, _⟩ := h; rfl)) ⟨_, fun cdv A outer s H E hr => (a0j (a0C (a2B rfl (b8B Z.b_zip (a0a (hv 0) (a0a (hv 1) a0e))) (a0F (outer := a0b a3d) (N := ["row", "first", "column", "prime"]) (N' := ["here", "there", "first", "column", "row", "prime"]) (ix := [none, none, some 1, some 2, some 0, some 3]) (by decide +kernel) rfl rfl) b3L (fun _ _ _ _ _ => b2A rfl (a4Y (a0S (i := 0) (show List.Nodup (["here", "there", "first", "column", "row", "prime"] : List Str) by decide +kernel) rfl (Or.inl rfl) (Or.inr rfl)) (a4Y (a0S (i := 1) (show List.Nodup (["here", "there", "first", "column", "row", "prime"] : List Str) by decide +kernel) rfl (Or.inl rfl) (Or.inr rfl)) a9O))) (fun _ _ _ _ _ => a2K) (fun _ _ _ _ _ => (a0s a2u (a0s a1R (a0s a0V (hv 0) (h_ix (hv 2) (hv 3))) (a0s a0V (hv 1) (h_ix (hv 4) (hv 3)))) (hv 5)))))), fun ts M Q h => ?_⟩
 unfold a4g at h
 split at h
 ·rename_i p q c m
  obtain ⟨a, b, hp, hq, hl, h6, c0, cl, m0, m97, ba, bb, h⟩ := h
  obtain ⟨u, hu⟩ : ∃ u, a[c.toNat]? = some u := ⟨_, List.getElem?_eq_getElem (by lia)⟩
  obtain ⟨v, hv⟩ : ∃ v, b[c.toNat]? = some v := ⟨_, List.getElem?_eq_getElem (by lia)⟩
  have au : atI (a.map T.int) c = some (.int u) := by
   rw [show c = ((c.toNat : Nat) : Int) by lia]; exact a2k (by rw [List.getElem?_map, hu]; rfl)
  have av : atI (b.map T.int) c = some (.int v) := by
   rw [show c = ((c.toNat : Nat) : Int) by lia]; exact a2k (by rw [List.getElem?_map, hv]; rfl)
  have bu := ba u (List.mem_of_getElem? hu)
  have bv := bb v (List.mem_of_getElem? hv)
  walk_at "rd"
  rw [hp, hq]
  dsimp only
  refine ⟨by rw [List.length_map, List.length_map, hl], fun i ys M' => ys = ((clr m c.toNat a b).take i).map T.int ∧ M' = M, ⟨rfl, rfl⟩, ?_, by rw [a5S (by rw [List.length_map, List.length_map, hl]), List.length_map]; exact a0E (by lia), ?_, ?_⟩
  ·rintro i ys M' ⟨_, rfl⟩
   exact ⟨hp, hq⟩
  ·rintro i x ys M' hx ⟨rfl, rfl⟩
   obtain ⟨t, w, ht, hw, rfl⟩ := a9x hx
   obtain ⟨x, hx2, rfl⟩ := a0B ht
   obtain ⟨y, hy2, rfl⟩ := a0B hw
   walk_at "rd"
   rw [hq]
   dsimp only
   rw [av]
   dsimp only
   rw [hp]
   dsimp only
   rw [au]
   dsimp only
   have bx := ba x (List.mem_of_getElem? hx2)
   have by' := bb y (List.mem_of_getElem? hy2)
   refine ⟨.inl ⟨by lia, by lia⟩, .inl ⟨by lia, by lia⟩, m0, ?_⟩
   rw [← a2w (b8N hx2 hy2 hu hv), List.map_append]; rfl
  ·rintro ys M' ⟨rfl, rfl⟩ r hr
   rw [a5S (by rw [List.length_map, List.length_map, hl]), List.length_map, List.take_of_length_le (by unfold clr; rw [List.length_zipWith]; exact Nat.min_le_left _ _)]
   exact a0m (h r hr)
 ·exact h.elim
noncomputable def a4e : Sp3 := fun ts M Q => match ts with
 | [.adr d, .int m] => ∃ (as : List Addr) (n : Nat) (rows : List (List Int)), M d = some (.lst (as.map .adr)) ∧ a1g M as rows ∧ RB n (2 ^ 60) rows ∧ n ≤ 6 ∧ 0 < m ∧ m ≤ 97 ∧ Q (.int (rkL m n 0 rows : Nat)) M
 | _ => False
theorem b5R {p : Int} {k c : Nat} {rows : List (List Int)} (h : rows.filter (fun r => decide (r.getD c 0 % p ≠ 0)) = []) : rkL p (k + 1) c rows = rkL p k (c + 1) rows := by
 conv => lhs; unfold rkL
 rw [h]
theorem b4f {p : Int} {k c : Nat} {rows t : List (List Int)} {f : List Int} (h : rows.filter (fun r => decide (r.getD c 0 % p ≠ 0)) = f :: t) : rkL p (k + 1) c rows = rkL p k (c + 1) (rows.map fun r => clr p c r f) + 1 := by
 conv => lhs; unfold rkL
 rw [h]
theorem b1x {P : Program} {w : World} {K : PySem.W.Frag} {mg : Str → Option Value} {base : Heap} {f : Addr} {fd : FuncData} {n : Nat}  (F : Fun K "rank_of" "rank_of" a2y f fd) (hm : mg "rank_of" = some (.ref f)) (hb : a1f K fd ["rows", "prime"] []) (Z : Zs mg) (D_cleared : Df P w K mg base n "cleared" ["row", "first", "column", "prime"] a4g) : Df P w K mg base (n + 1) "rank_of" ["rows", "prime"] a4e := by
 refine F.dfn hm hb a2X (by intro ts M Q h; unfold a4e at h; first | (split at h <;> first | rfl | exact h.elim) | (obtain ⟨_, _, _, _, _, rfl, _⟩ := h; rfl) | (obtain ⟨_, _, _, _, rfl, _⟩ := h; rfl) | (obtain ⟨_, _, _, rfl, _⟩ := h; rfl) | (obtain ⟨_, _, rfl, _⟩ := h; rfl) | (obtain ⟨_, rfl, _⟩ := h; rfl)) ⟨_, fun cdv A outer s H E hr => (a0c (a0M (i := 2) a0f a2X.nd) (a0c (a4r PassesOwn.never rfl (a1v Z.b_range (a0a (a0o a0u Z.b_len PySem.boot_len (a0a (hv 0) a0e)) a0e)) (a0Z (i := 3) a2X.nd) (a0c (a0M (i := 4) (a2B rfl (a4J (hv 0)) (a0F (outer := a0b a2y) (N := ["rows", "prime", "rank", "column", "found"]) (N' := ["row", "column", "prime"]) (ix := [none, some 3, some 1]) (by decide +kernel) rfl rfl) a1o (fun _ _ _ _ _ => a0S (i := 0) (show List.Nodup (["row", "column", "prime"] : List Str) by decide +kernel) rfl (Or.inl rfl) (Or.inr rfl)) (fun _ _ _ _ _ => a8y (a0t (a3U hr.units) (a0s a2u (h_ix (hv 0) (hv 1)) (hv 2)) a0f (a0n _))) (fun _ _ _ _ _ => (hv 0))) a2X.nd) (a0j (s_if (a5t (hv 4)) (a0c (b7D (i := 2) b8A a0f a2X.nd) (a0j (b0B (i := 0) rfl (a4J (hv 0)) (a0F (outer := a0b a2y) (N := ["rows", "prime", "rank", "column", "found"]) (N' := ["row", "found", "column", "prime"]) (ix := [none, some 4, some 3, some 1]) (by decide +kernel) rfl rfl) a1o (fun _ _ _ _ _ => a0S (i := 0) (show List.Nodup (["row", "found", "column", "prime"] : List Str) by decide +kernel) rfl (Or.inl rfl) (Or.inr rfl)) (fun _ _ _ _ _ => a2K) (fun _ _ _ _ _ => (a0q D_cleared hr (a0a (hv 0) (a0a (h_ix (hv 1) a0f) (a0a (hv 2) (a0a (hv 3) a0e)))))) a2X.nd))) a0D)))) (a0j (a0C (hv 2))))), fun ts M Q h => ?_⟩
 unfold a4e at h
 split at h
 ·rename_i d m
  obtain ⟨as, n, rows, hd, hrv, hrb, h6, m0, m97, h⟩ := h
  refine a0g fun K1 hK1 => ?_
  walk_at "rd"
  rw [hK1]; clear hK1
  refine a0g fun K2 hK2 => ?_
  refine a1K fun B hB => ?_
  unfold a3Q
  walk_at "rd"
  rw [hd]
  dsimp only
  have hal := hrv.1.trans hrb.1
  refine ⟨by rw [List.length_map, hal]; lia, by rw [List.length_map, hal]; lia, fun i ρ M' => (∃ d' k x1 x2, ρ = [some (T.adr d'), some (T.int m), some (T.int (k : Nat)), x1, x2] ∧ ∃ as rs, M' d' = some (.lst (as.map .adr)) ∧ a1g M' as rs ∧ RB n (2 ^ 60) rs ∧ k + rkL m (n - i) i rs = rkL m n 0 rows) ∧ Sub M M', ⟨⟨d, 0, _, _, rfl, as, rows, hd, hrv, hrb, Nat.zero_add _⟩, Sub.refl⟩, fun _ _ _ _ => trivial, ?_, ?_⟩
  ·rintro c x ρ M' hx ⟨⟨d', k, x1, x2, rfl, as', rs, hd', hrv', hrb', hk⟩, hS⟩
   have hc := (List.getElem?_eq_some_iff.mp hx).1
   rw [a0i, List.length_map, hal] at hc
   obtain ⟨_, rfl⟩ := a1Q hx
   clear hx
   replace hc : c < n := by lia
   have hal' := hrv'.1.trans hrb'.1
   rw [show n - c = (n - (c + 1)) + 1 by lia] at hk
   rw [hB]; clear hB
   refine a0g fun K3 hK3 => ?_
   walk_at "rd"
   rw [hd']
   dsimp only
   refine ⟨fun i ys M2 => (∃ fs : List Addr, ys = fs.map T.adr ∧ a1g M' fs ((rs.take i).filter fun r => decide (r.getD c 0 % m ≠ 0))) ∧ M2 = M', ⟨⟨[], rfl, a1g.nil⟩, rfl⟩, ?_, by rw [List.length_map]; exact a0E (by lia), ?_, ?_⟩
   ·rintro i ys M2 ⟨_, rfl⟩
    exact hd'
   ·rintro i y ys M2 hy ⟨⟨fs, rfl, hfs⟩, rfl⟩
    obtain ⟨a, hy2, rfl⟩ : ∃ a, as'[i]? = some a ∧ y = .adr a := by
     rw [List.getElem?_map] at hy
     cases e : as'[i]? with
     | none => rw [e] at hy; cases hy
     | some a => rw [e] at hy; exact ⟨a, rfl, (Option.some.inj hy).symm⟩
    obtain ⟨is, hrs, ma⟩ := hrv'.get hy2
    obtain ⟨la, ba⟩ := hrb'.2 is (List.mem_of_getElem? hrs)
    obtain ⟨u, hu⟩ : ∃ u, is[c]? = some u := ⟨_, List.getElem?_eq_getElem (by lia)⟩
    have au : atI (is.map T.int) (c : Int) = some (.int u) := a2k (by rw [List.getElem?_map, hu]; rfl)
    have eg : is.getD c 0 = u := by rw [List.getD_eq_getElem?_getD, hu]; rfl
    dsimp only
    rw [ma]
    dsimp only
    rw [au]
    dsimp only
    rw [a9e (fun r : List Int => decide (r.getD c 0 % m ≠ 0)) hrs]
    refine ⟨m0, ?_⟩
    rw [eg]
    by_cases z : u % m = 0
    ·have d : decide (u % m ≠ 0) = false := decide_eq_false fun y => y z
     rw [if_neg (fun y => y z), d, if_neg (by decide), List.append_nil]
     exact ⟨⟨fs, rfl, hfs⟩, rfl⟩
    ·have d : decide (u % m ≠ 0) = true := decide_eq_true z
     rw [if_pos z, d, if_pos rfl]
     exact ⟨⟨fs ++ [a], by rw [List.map_append]; rfl, hfs.snoc ma⟩, rfl⟩
   ·rintro ys M2 ⟨⟨fs, rfl, hfs⟩, rfl⟩ q hq
    rw [hK3]; clear hK3
    rw [List.length_map, List.take_of_length_le (by rw [hrv'.1]; exact Nat.le_refl _)] at hfs
    have hX := Sub.new hq (o := MO.lst (fs.map T.adr))
    have hS2 := hS.trans hX
    have hrv2 := hrv'.sub hX
    have hfs2 := hfs.sub hX
    have hd2 := hX _ _ hd'
    have hMq : (updM M2 q (MO.lst (fs.map T.adr))) q = some (.lst (fs.map T.adr)) := a0d
    generalize updM M2 q (MO.lst (fs.map T.adr)) = M3 at hS2 hrv2 hfs2 hd2 hMq ⊢
    walk_at "rd"
    rw [hMq]
    dsimp only
    cases fs with
    | nil =>
      have e0 := List.eq_nil_of_length_eq_zero hfs2.1.symm
      refine ⟨⟨d', k, _, _, rfl, as', rs, hd2, hrv2, hrb', ?_⟩, hS2⟩
      rw [← hk, b5R e0]
    | cons f fs =>
      obtain ⟨js, hjs, mf⟩ := hfs2.get (i := 0) rfl
      obtain ⟨t, e0⟩ : ∃ t, rs.filter (fun r => decide (r.getD c 0 % m ≠ 0)) = js :: t := by
       cases e : rs.filter (fun r => decide (r.getD c 0 % m ≠ 0)) with
       | nil => rw [e] at hjs; cases hjs
       | cons y t => rw [e] at hjs; exact ⟨t, by rw [Option.some.inj hjs]⟩
      have hjm : js ∈ rs := (List.mem_filter.mp (show js ∈ rs.filter (fun r => decide (r.getD c 0 % m ≠ 0)) by rw [e0]; exact .head _)).1
      obtain ⟨lf, bf⟩ := hrb'.2 js hjm
      rw [show (!(List.map T.adr (f :: fs)).isEmpty) = true from rfl, if_pos rfl, hd2]
      dsimp only
      refine ⟨fun i ys M4 => (∃ bs : List Addr, ys = bs.map T.adr ∧ a1g M4 bs ((rs.take i).map fun r => clr m c r js)) ∧ Sub M3 M4, ⟨⟨[], rfl, a1g.nil⟩, Sub.refl⟩, ?_, by rw [List.length_map]; exact a0E (by lia), ?_, ?_⟩
      ·rintro i ys M4 ⟨_, hS4⟩
       exact hS4 _ _ hd2
      ·rintro i y ys M4 hy ⟨⟨bs, rfl, hbs⟩, hS4⟩
       obtain ⟨a, hy2, rfl⟩ : ∃ a, as'[i]? = some a ∧ y = .adr a := by
        rw [List.getElem?_map] at hy
        cases e : as'[i]? with
        | none => rw [e] at hy; cases hy
        | some a => rw [e] at hy; exact ⟨a, rfl, (Option.some.inj hy).symm⟩
       obtain ⟨is, hrs, ma⟩ := hrv2.get hy2
       obtain ⟨la, ba⟩ := hrb'.2 is (List.mem_of_getElem? hrs)
       rw [hS4 _ _ hMq]
       dsimp only
       rw [List.map_cons, b1V]
       dsimp only
       refine ⟨is, js, hS4 _ _ ma, hS4 _ _ mf, by rw [la, lf], by lia, by lia, by lia, m0, m97, ba, bf, fun r hr => ?_⟩
       rw [Int.toNat_natCast]
       have hY := Sub.new hr (o := MO.lst ((clr m c is js).map T.int))
       refine ⟨⟨bs ++ [r], by rw [List.map_append]; rfl, ?_⟩, hS4.trans hY⟩
       rw [← a0H (fun r => clr m c r js) hrs]
       exact (hbs.sub hY).snoc a0d
      ·rintro ys M4 ⟨⟨bs, rfl, hbs⟩, hS4⟩ p hp
       rw [List.length_map, List.take_of_length_le (by rw [hrv'.1]; exact Nat.le_refl _)] at hbs
       have hY := Sub.new hp (o := MO.lst (bs.map T.adr))
       refine ⟨⟨p, k + 1, _, _, rfl, bs, _, a0d, hbs.sub hY, ⟨by rw [List.length_map]; exact hrb'.1, fun r hr => ?_⟩, ?_⟩, (hS2.trans hS4).trans hY⟩
       ·obtain ⟨q, hq, rfl⟩ := List.mem_map.mp hr
        obtain ⟨l1, l2⟩ := b8M m0 m97 (c := c) (hrb'.2 q hq).1 lf
        exact ⟨l1, fun x hx => Nat.le_trans (l2 x hx) (by decide)⟩
       ·rw [b4f e0] at hk
        rw [← hk]; lia
  ·rintro ρ M' ⟨⟨d', k, x1, x2, rfl, as', rs, hd', hrv', hrb', hk⟩, hS⟩
   rw [hK2]
   walk_at "rd"
   rw [a0i, List.length_map, hal, show (((n : Nat) : Int)).toNat = n by lia, Nat.sub_self] at hk
   have e : rkL m n 0 rows = k := by rw [← hk]; rfl
   rw [e] at h
   exact a0v h hS
 ·exact h.elim
noncomputable def a2d : Sp3 := fun ts M Q => match ts with
 | [.int m, .tup [.int n, .tup w]] => ∃ ws : List Int, w = ws.map .int ∧ PlOK n ws ∧ oddP m = true ∧ Q (.int (n - (rkL m n.toNat 0 (minU n.toNat (shL (unR n.toNat) ws)) : Nat))) M
 | _ => False
theorem a6k {P : Program} {w : World} {K : PySem.W.Frag} {mg : Str → Option Value} {base : Heap} {f : Addr} {fd : FuncData} {n : Nat}  (F : Fun K "free_colours" "free_colours" a1t f fd) (hm : mg "free_colours" = some (.ref f)) (hb : a1f K fd ["prime", "plait"] []) (Z : Zs mg) (D_looked : Df P w K mg base n "looked" ["plait"] a3R) (D_is_odd_prime : Df P w K mg base n "is_odd_prime" ["number"] a2c) (D_shares_behind : Df P w K mg base n "shares_behind" ["plait"] a1M) (D_rank_of : Df P w K mg base n "rank_of" ["rows", "prime"] a4e) : Df P w K mg base (n + 1) "free_colours" ["prime", "plait"] a2d := by
 refine F.dfn hm hb a3b (by intro ts M Q h; unfold a2d at h; first | (split at h <;> first | rfl | exact h.elim) | (obtain ⟨_, _, _, _, _, rfl, _⟩ := h; rfl) | (obtain ⟨_, _, _, _, rfl, _⟩ := h; rfl) | (obtain ⟨_, _, _, rfl, _⟩ := h; rfl) | (obtain ⟨_, _, rfl, _⟩ := h; rfl) | (obtain ⟨_, rfl, _⟩ := h; rfl)) ⟨_, fun cdv A outer s H E hr => (a0c (a5B (a0q D_looked hr (a0a (hv 1) a0e))) (a0c (s_if (b1M (a5t (a0q D_is_odd_prime hr (a0a (hv 0) a0e)))) (a0j a7G) a0D) (a0c (a0M (i := 2) (a0q D_shares_behind hr (a0a (hv 1) a0e)) a3b.nd) (a0c (a4r PassesOwn.never rfl (a1v Z.b_range (a0a (a0o a0u Z.b_len PySem.boot_len (a0a (hv 2) a0e)) a0e)) (a0Z (i := 3) a3b.nd) (a0j (b4e b8z (h_ix (hv 2) (hv 3)) (hv 3) a0f))) (a0j (a0C (a0s a1R (h_ix (hv 1) a0f) (a0q D_rank_of hr (a0a (hv 2) (a0a (hv 0) a0e)))))))))), fun ts M Q h => ?_⟩
 unfold a2d at h
 split at h
 ·rename_i m n w
  obtain ⟨ws, rfl, ok, hp, h⟩ := h
  refine a3j fun K1 hK1 => ?_
  walk_at "rd"
  refine ⟨ws, rfl, ok, ?_⟩
  show match some (oddP m) with | some k => if k = false then _ else _ | none => False
  rw [hp]
  dsimp only
  rw [if_neg (by decide)]
  obtain ⟨m3, m97⟩ : 3 ≤ m ∧ m ≤ 97 := by
   unfold oddP at hp
   rw [Bool.and_eq_true, Bool.and_eq_true, decide_eq_true_eq, decide_eq_true_eq] at hp
   exact hp.1
  refine ⟨ws, rfl, ok, fun r as M1 hr hS hMr hok hnd hfr => ?_⟩
  obtain ⟨n1, n6, hl16, hw⟩ := ok
  have hrb := b2n (b5c n.toNat) (ws := ws) (by rw [show ((n.toNat : Nat) : Int) = n by lia]; exact hw)
  generalize shL (unR n.toNat) ws = R at hok hrb h
  have hRB : ∀ i, i ≤ 6 → RB n.toNat (2 ^ 60) (minK i R) := fun i hi => by
   refine ⟨by rw [a5c]; exact hrb.1, fun q hq => ?_⟩
   unfold minK at hq
   obtain ⟨j, hj, rfl⟩ := List.mem_map.mp hq
   have hj := List.mem_range.mp hj
   obtain ⟨l1, l2⟩ := hrb.row (k := j) (by rw [← hrb.1]; exact hj)
   have h3 : 3 ^ ws.length * 1 ≤ 3 ^ 16 := by rw [Nat.mul_one]; exact Nat.pow_le_pow_right (by decide) hl16
   have l3 : ∀ x ∈ R.getD j [], x.natAbs ≤ 3 ^ 16 := fun x hx => Nat.le_trans (l2 x hx) h3
   have e16 : 3 ^ 16 + 1 ≤ 2 ^ 60 := by decide
   generalize 3 ^ 16 = P at l3 e16
   generalize 2 ^ 60 = P2 at e16 ⊢
   split
   ·refine ⟨by rw [List.length_set]; exact l1, fun x hx => ?_⟩
    rcases List.mem_or_eq_of_mem_set hx with z | rfl
    ·have := l3 x z; lia
    ·have : (R.getD j []).getD j 0 ∈ R.getD j [] := by
      rw [List.getD_eq_getElem?_getD (i := j) (l := R.getD j []), List.getElem?_eq_getElem (by rw [l1, ← hrb.1]; exact hj)]
      exact List.getElem_mem _
     have := l3 _ this
     lia
   ·exact ⟨l1, fun x hx => by have := l3 x hx; lia⟩
  rw [hK1]; clear hK1
  refine a0g fun K2 hK2 => ?_
  refine a1K fun B hB => ?_
  unfold a3Q
  walk_at "rd"
  rw [hMr]
  dsimp only
  have hal := hok.1.trans hrb.1
  refine ⟨by rw [List.length_map, hal]; lia, by rw [List.length_map, hal]; lia, fun i ρ M2 => (∃ x1, ρ = [some (T.int m), some (T.tup [T.int n, T.tup (List.map T.int ws)]), some (T.adr r), x1]) ∧ M2 r = some (.lst (as.map T.adr)) ∧ a1g M2 as (minK i R) ∧ Sub M M2, ⟨⟨_, rfl⟩, hMr, by rw [b2U]; exact hok, hS⟩, fun _ _ _ _ => trivial, ?_, ?_⟩
  ·rintro i x ρ M2 hx ⟨⟨x1, rfl⟩, hMr2, hok2, hS2⟩
   have hi := (List.getElem?_eq_some_iff.mp hx).1
   obtain ⟨_, rfl⟩ := a1Q hx
   rw [a0i, List.length_map] at hi
   replace hi : i < as.length := by lia
   obtain ⟨a, ea⟩ : ∃ a, as[i]? = some a := ⟨_, List.getElem?_eq_getElem hi⟩
   have aa : atI (as.map T.adr) (i : Int) = some (.adr a) := a2k (by rw [List.getElem?_map, ea]; rfl)
   have ha := List.mem_of_getElem? ea
   obtain ⟨is, eis, ma⟩ := hok2.get ea
   have eR : R[i]? = some is := by
    have hiR : i < R.length := by rw [hrb.1, ← hal]; exact hi
    rw [a5Q hiR, if_neg (Nat.lt_irrefl i), List.getD_eq_getElem?_getD, List.getElem?_eq_getElem hiR] at eis
    rw [List.getElem?_eq_getElem hiR]
    exact eis
   obtain ⟨la, ba⟩ := (hRB i (by lia)).2 is (List.mem_of_getElem? eis)
   obtain ⟨u, hu⟩ : ∃ u, is[i]? = some u := ⟨_, List.getElem?_eq_getElem (by lia)⟩
   have au : atI (is.map T.int) (i : Int) = some (.int u) := a2k (by rw [List.getElem?_map, hu]; rfl)
   have eu : is.getD i 0 = u := by rw [List.getD_eq_getElem?_getD, hu]; rfl
   have har : a ≠ r := fun z => hok2.ne hMr2 (fun y => by rw [y] at ea; cases ea) (by rw [← z]; exact ha)
   rw [hB]; clear hB
   walk_at "rd"
   rw [hMr2]
   dsimp only
   rw [aa]
   dsimp only
   rw [ma]
   dsimp only
   have e2 : (is.map T.int).set ((i : Int)).toNat (T.int (u - 1)) = (is.set i (u - 1)).map T.int := by rw [List.map_set]; rfl
   refine ⟨u, by lia, by rw [List.getElem?_map, show ((i : Int)).toNat = i by lia, hu]; rfl, rfl, ⟨_, rfl⟩, by rw [a0k har.symm]; exact hMr2, ?_, hS2.updF (hfr a ha)⟩
   rw [e2, b2V eR, eu]
   exact hok2.put hnd ea
  ·rintro ρ M2 ⟨⟨x1, rfl⟩, hMr2, hok2, hS2⟩
   rw [hK2]; clear hK2
   walk_at "rd"
   rw [a0i, List.length_map, show ((as.length : Nat) : Int).toNat = as.length by lia, hal] at hok2
   refine ⟨as, n.toNat, minK n.toNat R, hMr2, hok2, hRB _ (by lia), by lia, by lia, m97, ?_⟩
   rw [b4C hrb.1]
   exact a0v h hS2
 ·exact h.elim
noncomputable def a2Q : Sp3 := fun ts M Q => match ts with
 | [.rd s, .int k] => ∃ ns : List Int, s = ns.map .int ∧ 0 ≤ k ∧ k < 100 ∧ ∀ p c f, M p = none → Q (.adr p) (updM M p (.lst [.int c, .int f]))
 | _ => False
theorem a7Y {P : Program} {w : World} {K : PySem.W.Frag} {mg : Str → Option Value} {base : Heap} {f : Addr} {fd : FuncData} {n : Nat}  (F : Fun K "_law_state" "_law_state" a1W f fd) (hm : mg "_law_state" = some (.ref f)) (hb : a1f K fd ["script", "k"] []) (Z : Zs mg)  : Df P w K mg base (n + 1) "_law_state" ["script", "k"] a2Q := by
 refine F.dfn hm hb a3H (by intro ts M Q h; unfold a2Q at h; first | (split at h <;> first | rfl | exact h.elim) | (obtain ⟨_, _, _, _, _, rfl, _⟩ := h; rfl) | (obtain ⟨_, _, _, _, rfl, _⟩ := h; rfl) | (obtain ⟨_, _, _, rfl, _⟩ := h; rfl) | (obtain ⟨_, _, rfl, _⟩ := h; rfl) | (obtain ⟨_, rfl, _⟩ := h; rfl)) ⟨_, fun cdv A outer s H E hr => (a0c (a0M (i := 2) a0f a3H.nd) (a0c (s_if (a0t a5a (hv 1) (a0o a0u Z.b_len PySem.boot_len (a0a (hv 0) a0e)) (a0n _)) (a0j (a0M (i := 2) (h_ix (hv 0) (hv 1)) a3H.nd)) a0D) (a0c (s_if (a0t b5q (hv 2) (a0s b2F a0f a0f) (a0n _)) (a0j (a0C (a2A (a0a (a0s a1R (hv 2) (a0s b2F a0f a0f)) (a0a a0f a0e))))) a0D) (a0j (a0C (a2A (a0a (a0s a2u (a0s a0A (hv 2) (a0s a0V a0f (hv 1))) a0f) (a0a a0f a0e)))))))), fun ts M Q h => ?_⟩
 unfold a2Q at h
 split at h
 ·rename_i s k
  obtain ⟨ns, rfl, h0, h1, h⟩ := h
  walk_at "rd"
  refine ite2 (fun c => ?_) (fun c => ?_)
  ·rw [a8t ns k h0 c]
   refine ⟨⟨by decide, by decide, by decide⟩, ite2 (fun _ => ⟨⟨by decide, by decide, by decide⟩, by decide, fun p hp => a0m (h _ _ _ hp)⟩) (fun _ => ⟨.inl ⟨by decide, by decide⟩, by decide, by decide, fun p hp => a0m (h _ _ _ hp)⟩)⟩
  ·refine ⟨⟨by decide, by decide, by decide⟩, ite2 (fun _ => ⟨⟨by decide, by decide, by decide⟩, by decide, fun p hp => a0m (h _ _ _ hp)⟩) (fun _ => ⟨.inl ⟨by decide, by decide⟩, by decide, by decide, fun p hp => a0m (h _ _ _ hp)⟩)⟩
 ·exact h.elim
theorem b3K {x m : Int} (h0 : 0 < m) (h1 : m < 2 ^ 100) : b7d x m := by
 refine ⟨h0, ?_⟩
 have : m.natAbs.log2 < 100 := (Nat.log2_lt (by lia)).mpr (by lia)
 lia
theorem b1d {x y k : Int} (hk : 0 < k) (hk' : k ≤ 2 ^ 64) : CMul (x % k) y := by
 have h1 := Int.emod_nonneg x (Int.ne_of_gt hk)
 have h2 := Int.emod_lt_of_pos x hk
 exact .inl ⟨by lia, by lia⟩
noncomputable def a0K : Sp3 := fun ts M Q => match ts with
 | [.adr p, .int m] => ∃ s f, M p = some (.lst [.int s, .int f]) ∧ 0 < m ∧ m < 2 ^ 60 ∧ ∀ c s' f', 0 ≤ c → c < m → Q (.int c) (updM M p (.lst [.int s', .int f']))
 | _ => False
theorem a8M {P : Program} {w : World} {K : PySem.W.Frag} {mg : Str → Option Value} {base : Heap} {f : Addr} {fd : FuncData} {n : Nat}  (F : Fun K "_law_take" "_law_take" a2r f fd) (hm : mg "_law_take" = some (.ref f)) (hb : a1f K fd ["state", "many"] []) (Z : Zs mg)  : Df P w K mg base (n + 1) "_law_take" ["state", "many"] a0K := by
 refine F.dfn hm hb a3k (by intro ts M Q h; unfold a0K at h; first | (split at h <;> first | rfl | exact h.elim) | (obtain ⟨_, _, _, _, _, rfl, _⟩ := h; rfl) | (obtain ⟨_, _, _, _, rfl, _⟩ := h; rfl) | (obtain ⟨_, _, _, rfl, _⟩ := h; rfl) | (obtain ⟨_, _, rfl, _⟩ := h; rfl) | (obtain ⟨_, rfl, _⟩ := h; rfl)) ⟨_, fun cdv A outer s H E hr => (a0c (s_if (HW.ht (a9y (a0t (a0Y hr.units) (h_ix (hv 0) a0f) a0f (a0n _)) (a6Z (a0t a3v (h_ix (hv 0) a0f) a0f (a0n _))))) (a0c (a0M (i := 2) (a0s a2u (h_ix (hv 0) a0f) (hv 1)) a3k.nd) (a0c (a4s (a0s a7S (h_ix (hv 0) a0f) (hv 1)) (a5P (hv 0) a0f)) (a0j (a0C (hv 2))))) a0D) (a0c (a4s a0f (a5P (hv 0) a0f)) (a0c (a4s (a0s a2u (a0s a0A (a0s a0V (h_ix (hv 0) a0f) a0f) a0f) a0f) (a5P (hv 0) a0f)) (a0c (a0M (i := 3) (a0s a2u (a0s a0A (a0s a0V (h_ix (hv 0) a0f) (h_ix (hv 0) a0f)) (a0s a0V a0f (h_ix (hv 0) a0f))) a0f) a3k.nd) (a0c (a0M (i := 3) (a0s a2u (a0s a0A (a0s a0V (hv 3) (hv 3)) (a0s a0V a0f (hv 3))) a0f) a3k.nd) (a0j (a0C (a0s a2u (a0s a7S (hv 3) a0f) (hv 1))))))))), fun ts M Q h => ?_⟩
 unfold a0K at h
 split at h
 ·rename_i p m
  obtain ⟨s, f, hM, h0, h1, h⟩ := h
  refine a0g fun K1 hK1 => ?_
  have hk : K1 [some (.adr p), some (.int m), none, none] M := by
   rw [hK1]
   clear hK1
   walk_at "rd"
   simp only [hM]
   walk_at "rd"
   have i1 : ixN (0 + 1 + 1) 1 = some 1 := by decide
   simp only [i1]
   exact ⟨.inr ⟨by decide, by decide⟩, by decide, b1d (by decide) (by decide), .inl ⟨by decide, by decide⟩, by decide, b1d (by decide) (by decide), .inl ⟨by decide, by decide⟩, by decide, b3K (by decide) (by decide), h0,
    a0m (h _ _ _ (Int.emod_nonneg _ (Int.ne_of_gt h0)) (Int.emod_lt_of_pos _ h0))⟩
  walk_at "rd"
  simp only [hM]
  walk_at "rd"
  have i0 : ixN 2 0 = some 0 := by decide
  exact ite2 (fun c => ite2 (fun c2 => ⟨h0, b3K h0 (by lia), a0m (h _ _ _ (Int.emod_nonneg _ (Int.ne_of_gt h0)) (Int.emod_lt_of_pos _ h0))⟩) (fun c2 => hk)) (fun c => hk)
 ·exact h.elim
noncomputable def a1r : Sp3 := fun ts M Q => match ts with
 | [.adr p, .int n] => ∃ s f, M p = some (.lst [.int s, .int f]) ∧ 2 ≤ n ∧ n ≤ 6 ∧ ∀ l s' f', LetOK n l → Q (.int l) (updM M p (.lst [.int s', .int f']))
 | _ => False
theorem a6S {P : Program} {w : World} {K : PySem.W.Frag} {mg : Str → Option Value} {base : Heap} {f : Addr} {fd : FuncData} {n : Nat}  (F : Fun K "_law_letter" "_law_letter" a1H f fd) (hm : mg "_law_letter" = some (.ref f)) (hb : a1f K fd ["state", "strands"] []) (Z : Zs mg) (D__law_take : Df P w K mg base n "_law_take" ["state", "many"] a0K) : Df P w K mg base (n + 1) "_law_letter" ["state", "strands"] a1r := by
 refine F.dfn hm hb a4v (by intro ts M Q h; unfold a1r at h; first | (split at h <;> first | rfl | exact h.elim) | (obtain ⟨_, _, _, _, _, rfl, _⟩ := h; rfl) | (obtain ⟨_, _, _, _, rfl, _⟩ := h; rfl) | (obtain ⟨_, _, _, rfl, _⟩ := h; rfl) | (obtain ⟨_, _, rfl, _⟩ := h; rfl) | (obtain ⟨_, rfl, _⟩ := h; rfl)) ⟨_, fun cdv A outer s H E hr => (a0c (a0M (i := 2) (a0q D__law_take hr (a0a (hv 0) (a0a (a0s a0V a0f (a0s a1R (hv 1) a0f)) a0e))) a4v.nd) (a0j (a0C (a0s a0V (h_ix (a2A (a0a a0f (a0a (h_un a2E a0f) a0e))) (a0s a2u (hv 2) a0f)) (a0s a0A a0f (a0s a7S (hv 2) a0f)))))), fun ts M Q h => ?_⟩
 unfold a1r at h
 split at h
 ·rename_i p n
  obtain ⟨s, f, hM, h0, h1, h⟩ := h
  walk_at "rd"
  refine ⟨.inl ⟨by lia, by lia⟩, s, f, hM, by lia, by lia, fun c s1 f1 c0 c1 => ?_⟩
  walk_at "rd"
  refine ⟨by decide, fun p1 hp1 => ?_⟩
  have n1 : p ≠ p1 := fun z => by rw [← z, a0d] at hp1; cases hp1
  have e1 : ∃ b : Int, (b = 1 ∨ b = -1) ∧ atI [T.int 1, T.int (-1)] (c % 2) = some (.int b) := by
   rcases (show c % 2 = 0 ∨ c % 2 = 1 by lia) with e | e
   ·rw [e]; exact ⟨1, .inl rfl, rfl⟩
   ·rw [e]; exact ⟨-1, .inr rfl, rfl⟩
  obtain ⟨b, hb, e1⟩ := e1
  simp only [e1]
  have hl : LetOK n (b * (1 + c / 2)) := by
   unfold LetOK
   rcases hb with rfl | rfl
   ·lia
   ·lia
  exact ⟨by decide, ⟨by decide, by decide⟩, .inl ⟨by lia, by lia⟩, a0v (h _ _ _ hl) (Sub.new hp1)⟩
 ·exact h.elim
noncomputable def a2R : Sp3 := fun ts M Q => match ts with
 | [.adr p, .int most, .int longest] => ∃ s f, M p = some (.lst [.int s, .int f]) ∧ 1 ≤ most ∧ most ≤ 6 ∧ 0 ≤ longest ∧ longest ≤ 100 ∧ ∀ (n : Int) (w : List Int) s' f', 1 ≤ n → n ≤ most → (w.length : Int) ≤ longest → WordOK n w → Q (.tup [.int n, .tup (w.map .int)]) (updM M p (.lst [.int s', .int f']))
 | _ => False
theorem a7Z {P : Program} {w : World} {K : PySem.W.Frag} {mg : Str → Option Value} {base : Heap} {f : Addr} {fd : FuncData} {n : Nat}  (F : Fun K "_law_plait" "_law_plait" a1X f fd) (hm : mg "_law_plait" = some (.ref f)) (hb : a1f K fd ["state", "most", "longest"] []) (Z : Zs mg) (D__law_take : Df P w K mg base n "_law_take" ["state", "many"] a0K) (D__law_letter : Df P w K mg base n "_law_letter" ["state", "strands"] a1r) : Df P w K mg base (n + 1) "_law_plait" ["state", "most", "longest"] a2R := by
 refine F.dfn hm hb a2V (by intro ts M Q h; unfold a2R at h; first | (split at h <;> first | rfl | exact h.elim) | (obtain ⟨_, _, _, _, _, rfl, _⟩ := h; rfl) | (obtain ⟨_, _, _, _, rfl, _⟩ := h; rfl) | (obtain ⟨_, _, _, rfl, _⟩ := h; rfl) | (obtain ⟨_, _, rfl, _⟩ := h; rfl) | (obtain ⟨_, rfl, _⟩ := h; rfl)) ⟨_, fun cdv A outer s H E hr => (a0c (a0M (i := 3) (a0s a0A a0f (a0s a7S (a0s a2u (a0s a0A (a0q D__law_take hr (a0a (hv 0) (a0a (a0s a0V a0f (hv 1)) a0e))) a0f) (a0s a0V a0f (hv 1))) a0f)) a2V.nd) (a0c (a0M (i := 4) (a2A a0e) a2V.nd) (a0c (a4r PassesOwn.never rfl (a1v Z.b_range (a0a (a0s a0V (a0q D__law_take hr (a0a (hv 0) (a0a (a0s a0A (hv 2) a0f) a0e))) (a1S a3i Z.b_int PyProof.Rows.boot_int (a0a (a5w a3v (hv 3) a0f (a0n _)) a0e))) a0e)) (a0Z (i := 5) a2V.nd) (a0c (a5B (a5v (hv 4) (a0a (a0q D__law_letter hr (a0a (hv 0) (a0a (hv 3) a0e))) a0e))) (a0j (s_if (HW.ht (a9y (a0t (a0Y hr.units) (a0q D__law_take hr (a0a (hv 0) (a0a a0f a0e))) a0f (a0n _)) (a6Z (a0t a3v (a0o a0u Z.b_len PySem.boot_len (a0a (hv 4) a0e)) a0f (a0n _))))) (a0j (a4s (h_ix (a2A (a0a (h_ix (hv 4) (h_un a2E a0f)) (a0a (a0s a1R a0f (h_ix (hv 4) (h_un a2E a0f))) a0e))) (a0q D__law_take hr (a0a (hv 0) (a0a a0f a0e)))) (a5P (hv 4) (h_un a2E a0f)))) a0D)))) (a0j (a0C (a1A (a0a (hv 3) (a0a (a1S a1T Z.b_tuple PyProof.Rows.boot_tuple (a0a (hv 4) a0e)) a0e)))))))), fun ts M Q h => ?_⟩
 unfold a2R at h
 split at h
 ·rename_i p most longest
  obtain ⟨s, f, hM, hm1, hm2, hl0, hl1, h⟩ := h
  refine a2g fun K2 hK2 => ?_
  walk_at "rd"
  refine ⟨.inl ⟨by decide, by decide⟩, s, f, hM, by lia, by lia, fun c s1 f1 c0 c1 => ?_⟩
  refine ⟨.inl ⟨by decide, by decide⟩, by lia, ⟨by decide, by decide⟩, fun r hr => ?_⟩
  have hn : 1 ≤ 1 + (c + 1) % (12 * most) / 12 ∧ 1 + (c + 1) % (12 * most) / 12 ≤ most := by
   have e1 := Int.emod_nonneg (c + 1) (show 12 * most ≠ 0 by lia)
   have e2 := Int.emod_lt_of_pos (c + 1) (show 0 < 12 * most by lia)
   lia
  generalize 1 + (c + 1) % (12 * most) / 12 = n at hn ⊢
  have nr : p ≠ r := fun z => by rw [← z, a0d] at hr; cases hr
  have hrn : ∀ x, updM M p x r = none := fun x => by
   rw [a0k nr.symm] at hr ⊢; exact hr
  rw [hK2]
  refine a0g fun K3 hK3 => ?_
  refine a1K fun B hB => ?_
  walk_at "rd"
  refine ⟨s1, f1, by rw [a0k nr, a0d], by lia, by lia, fun c2 s2 f2 c20 c21 => ?_⟩
  have hb : ∃ k : Int, (if 1 < n then (1 : Int) else 0) = k ∧ ((k = 0) ∨ (k = 1 ∧ 2 ≤ n)) := by
   by_cases c : 1 < n
   ·exact ⟨1, if_pos c, .inr ⟨rfl, by lia⟩⟩
   ·exact ⟨0, if_neg c, .inl rfl⟩
  obtain ⟨k, ek, hb⟩ := hb
  have hS0 : Sub (updM M p (.lst [.int s2, .int f2])) (updM (updM (updM M p (MO.lst [T.int s1, T.int f1])) r (MO.lst [])) p (MO.lst [T.int s2, T.int f2])) := (Sub.new hr).set
  have hr0 : updM (updM (updM M p (MO.lst [T.int s1, T.int f1])) r (MO.lst [])) p (MO.lst [T.int s2, T.int f2]) r = some (.lst []) := by rw [a0k nr.symm, a0d]
  generalize updM (updM (updM M p (MO.lst [T.int s1, T.int f1])) r (MO.lst [])) p (MO.lst [T.int s2, T.int f2]) = M0 at hS0 hr0 ⊢
  walk_at "rd"
  rw [ek]
  have hck : 0 ≤ c2 * k ∧ c2 * k ≤ longest ∧ (0 < c2 * k → 2 ≤ n) := by
   rcases hb with rfl | ⟨rfl, h2⟩
   ·rw [Int.mul_zero]; lia
   ·rw [Int.mul_one]; lia
  have hcm : CMul c2 k := .inl ⟨by lia, by lia⟩
  generalize c2 * k = cnt at hck ⊢
  refine ⟨hcm, by lia, by lia, fun i ρ M' => ∃ a w s' f', ρ = [some (T.adr p), some (T.int most), some (T.int longest), some (T.int n), some (T.adr r), a] ∧ M' r = some (.lst (List.map T.int w)) ∧ Sub (updM M p (.lst [.int s', .int f'])) M' ∧ w.length = i ∧ WordOK n w, ⟨none, [], s2, f2, rfl, hr0, hS0, rfl, WordOK.nil⟩, fun _ _ _ _ => trivial, ?_, ?_⟩
  ·rintro i x ρ M' hx ⟨a, w, s', f', rfl, hw, hS, hwl, hok⟩
   obtain ⟨hi, rfl⟩ := a1Q hx
   have hp' : M' p = some (.lst [.int s', .int f']) := hS _ _ a0d
   rw [hB]
   refine a0g fun K4 hK4 => ?_
   walk_at "rd"
   rw [hw]
   refine ⟨trivial, s', f', hp', by lia, by lia, fun l s3 f3 hl => ?_⟩
   simp only [a0k nr.symm, hw]
   have e1 : List.map T.int w ++ [T.int l] = (w ++ [l]).map T.int := by rw [List.map_append]; rfl
   rw [e1]
   have hS1 : Sub (updM M p (.lst [.int s3, .int f3])) (updM (updM M' p (.lst [.int s3, .int f3])) r (.lst ((w ++ [l]).map T.int))) := hS.set.updF (hrn _)
   have hw1 : updM (updM M' p (.lst [.int s3, .int f3])) r (.lst ((w ++ [l]).map T.int)) r = some (.lst ((w ++ [l]).map T.int)) := a0d
   generalize updM (updM M' p (.lst [.int s3, .int f3])) r (.lst ((w ++ [l]).map T.int)) = M1 at hS1 hw1 ⊢
   have hp1 : M1 p = some (.lst [.int s3, .int f3]) := hS1 _ _ a0d
   refine ⟨by rw [List.length_map]; exact a0E (by lia), ?_⟩
   have hok1 : WordOK n (w ++ [l]) := hok.append fun x hx => by rw [List.mem_singleton.mp hx]; exact hl
   rw [hK4]
   walk_at "rd"
   refine ⟨s3, f3, hp1, by decide, by decide, fun c4 s4 f4 c40 c41 => ?_⟩
   have hr2 : updM M1 p (.lst [.int s4, .int f4]) r = some (.lst ((w ++ [l]).map T.int)) := by rw [a0k nr.symm, hw1]
   have hS2 : Sub (updM M p (.lst [.int s4, .int f4])) (updM M1 p (.lst [.int s4, .int f4])) := hS1.set
   generalize updM M1 p (.lst [.int s4, .int f4]) = M2 at hr2 hS2 ⊢
   have hp2 : M2 p = some (.lst [.int s4, .int f4]) := hS2 _ _ a0d
   have hlen : (w ++ [l]).length = i + 1 := by rw [List.length_append, hwl]; rfl
   refine ⟨rfl, by rw [a5f]; lia, ite2 (fun hc => ?_) (fun hc => ⟨_, _, s4, f4, rfl, hr2, hS2, hlen, hok1⟩)⟩
   simp only [hr2]
   refine ite2 (fun hc2 => ?_) (fun hc2 => ⟨_, _, s4, f4, rfl, rfl, hS2, hlen, hok1⟩)
   rw [List.length_map, hlen] at hc2
   obtain ⟨w0, y, rfl⟩ : ∃ w0 y, w = w0 ++ [y] := by
    rcases List.eq_nil_or_concat w with e | ⟨w0, y, e⟩
    ·rw [e] at hwl; simp at hwl; lia
    ·exact ⟨w0, y, by rw [e, List.concat_eq_append]⟩
   have e2 : List.map T.int (w0 ++ [y] ++ [l]) = List.map T.int w0 ++ [T.int y, T.int l] := by simp
   have a2 : atI (List.map T.int (w0 ++ [y] ++ [l])) (-2) = some (T.int y) := by rw [e2]; exact b3N _ _ _
   have hy : LetOK n y := hok y (by simp)
   simp only [a2]
   refine ⟨by decide, fun p3 hp3 => ?_⟩
   have q1 : p ≠ p3 := fun z => by rw [← z, hp2] at hp3; cases hp3
   have q2 : r ≠ p3 := fun z => by rw [← z, hr2] at hp3; cases hp3
   refine ⟨s4, f4, by rw [a0k q1, hp2], by decide, by decide, fun c5 s5 f5 c50 c51 => ?_⟩
   have e5 : ∃ b : Int, LetOK n b ∧ atI [T.int y, T.int (0 - y)] c5 = some (.int b) := by
    rcases (show c5 = 0 ∨ c5 = 1 by lia) with rfl | rfl
    ·exact ⟨y, hy, rfl⟩
    ·exact ⟨0 - y, by unfold LetOK at hy ⊢; lia, rfl⟩
   obtain ⟨b, hbL, e5⟩ := e5
   simp only [a0k q1.symm, a0d, e5, a0k nr.symm, a0k q2, hr2]
   have ix : ixN (List.map T.int (w0 ++ [y] ++ [l])).length (-1) = some (w0.length + 1) := by
    unfold ixN
    rw [List.length_map]
    simp only [List.length_append, List.length_singleton]
    rw [if_neg (by decide), if_pos (by lia)]
    congr 1
    lia
   rw [ix]
   have e6 : (List.map T.int (w0 ++ [y] ++ [l])).set (w0.length + 1) (T.int b) = List.map T.int (w0 ++ [y] ++ [b]) := by
    rw [← List.map_set]
    congr 1
    rw [List.set_append_right _ _ (by simp)]
    simp
   dsimp only
   rw [e6]
   refine ⟨_, w0 ++ [y] ++ [b], s5, f5, rfl, rfl, ?_, by rw [List.length_append, hwl]; rfl, hok.append fun x hx => by rw [List.mem_singleton.mp hx]; exact hbL⟩
   exact ((hS2.newr hp3).set).updF (hrn _)
  ·rintro ρ M' ⟨a, w, s', f', rfl, hw, hS, hwl, hok⟩
   rw [a0i] at hwl
   rw [hK3]
   walk_at "rd"
   simp only [hw]
   exact ⟨by decide, a0v (h n w s' f' hn.1 hn.2 (by lia) hok) hS⟩
 ·exact h.elim
noncomputable def a1h : Sp3 := fun ts M Q => match ts with
 | [.int l] => Q (.int (sg l)) M
 | _ => False
theorem a8N {P : Program} {w : World} {K : PySem.W.Frag} {mg : Str → Option Value} {base : Heap} {f : Addr} {fd : FuncData} {n : Nat}  (F : Fun K "_law_sign" "_law_sign" a2s f fd) (hm : mg "_law_sign" = some (.ref f)) (hb : a1f K fd ["letter"] []) (Z : Zs mg)  : Df P w K mg base (n + 1) "_law_sign" ["letter"] a1h := by
 refine F.dfn hm hb a8F (by intro ts M Q h; unfold a1h at h; first | (split at h <;> first | rfl | exact h.elim) | (obtain ⟨_, _, _, _, _, rfl, _⟩ := h; rfl) | (obtain ⟨_, _, _, _, rfl, _⟩ := h; rfl) | (obtain ⟨_, _, _, rfl, _⟩ := h; rfl) | (obtain ⟨_, _, rfl, _⟩ := h; rfl) | (obtain ⟨_, rfl, _⟩ := h; rfl)) ⟨_, fun cdv A outer s H E hr => (a0j (a0C (h_ix (a2A (a0a (h_un a2E a0f) (a0a a0f a0e))) (a1S a3i Z.b_int PyProof.Rows.boot_int (a0a (a5w a3v (hv 0) a0f (a0n _)) a0e))))), fun ts M Q h => ?_⟩
 unfold a1h at h
 split at h
 ·rename_i l
  walk_at "rd"
  refine ⟨by decide, fun p hp => ?_⟩
  have e : atI [T.int (-1), T.int 1] (if 0 < l then 1 else 0) = some (.int (sg l)) := by
   unfold sg
   by_cases c : 0 < l
   ·rw [if_pos c, if_pos c]; rfl
   ·rw [if_neg c, if_neg c]; rfl
  simp only [e]
  exact a0v h (Sub.new hp)
 ·exact h.elim
noncomputable def a2O : Sp3 := fun ts M Q => match ts with
 | [.tup w] => ∃ p q r : Int, w = [.int p, .int q, .int r] ∧ p ≠ 0 ∧ q ≠ 0 ∧ r ≠ 0 ∧ p.natAbs < 7 ∧ q.natAbs < 7 ∧ r.natAbs < 7 ∧ Q (if thrB p q r then .tup [.int (sgnL q r), .int (sgnL p q), .int (sgnL q p)] else .non) M
 | _ => False
theorem a7W {P : Program} {w : World} {K : PySem.W.Frag} {mg : Str → Option Value} {base : Heap} {f : Addr} {fd : FuncData} {n : Nat}  (F : Fun K "_law_three" "_law_three" a1V f fd) (hm : mg "_law_three" = some (.ref f)) (hb : a1f K fd ["part"] []) (Z : Zs mg) (D__law_sign : Df P w K mg base n "_law_sign" ["letter"] a1h) : Df P w K mg base (n + 1) "_law_three" ["part"] a2O := by
 refine F.dfn hm hb a2U (by intro ts M Q h; unfold a2O at h; first | (split at h <;> first | rfl | exact h.elim) | (obtain ⟨_, _, _, _, _, rfl, _⟩ := h; rfl) | (obtain ⟨_, _, _, _, rfl, _⟩ := h; rfl) | (obtain ⟨_, _, _, rfl, _⟩ := h; rfl) | (obtain ⟨_, _, rfl, _⟩ := h; rfl) | (obtain ⟨_, rfl, _⟩ := h; rfl)) ⟨_, fun cdv A outer s H E hr => (a0c (a4s (hv 0) (a9a (n := 3) rfl (a1B (a0Z (i := 1) a2U.nd) (a1B (a0Z (i := 2) a2U.nd) (a1B (a0Z (i := 3) a2U.nd) a5H))))) (a0c (s_if (HW.ht (w_or (a0t (a3U hr.units) (a0o a0R Z.b_abs PyProof.Rows.boot_abs (a0a (hv 1) a0e)) (a0o a0R Z.b_abs PyProof.Rows.boot_abs (a0a (hv 3) a0e)) (a0n _)) (a8w (a0t b2G (a0s a1R (a0o a0R Z.b_abs PyProof.Rows.boot_abs (a0a (hv 1) a0e)) (a0o a0R Z.b_abs PyProof.Rows.boot_abs (a0a (hv 2) a0e))) (a2A (a0a a0f (a0a (h_un a2E a0f) a0e))) rfl)))) (a0j (a0C a5u)) a0D) (a0c (s_if (HW.ht (a9y (a0t (a0Y hr.units) (a0q D__law_sign hr (a0a (hv 1) a0e)) (a0q D__law_sign hr (a0a (hv 3) a0e)) (a0n _)) (a6Z (a0t (a3U hr.units) (a0q D__law_sign hr (a0a (hv 1) a0e)) (a0q D__law_sign hr (a0a (hv 2) a0e)) (a0n _))))) (a0j (a0C a5u)) a0D) (a0j (a0C (a1A (a0a (a0s a0V (a0q D__law_sign hr (a0a (hv 3) a0e)) (a0o a0R Z.b_abs PyProof.Rows.boot_abs (a0a (hv 2) a0e))) (a0a (a0s a0V (a0q D__law_sign hr (a0a (hv 2) a0e)) (a0o a0R Z.b_abs PyProof.Rows.boot_abs (a0a (hv 1) a0e))) (a0a (a0s a0V (a0q D__law_sign hr (a0a (hv 1) a0e)) (a0o a0R Z.b_abs PyProof.Rows.boot_abs (a0a (hv 2) a0e))) a0e))))))))), fun ts M Q h => ?_⟩
 unfold a2O at h
 split at h
 ·rename_i w
  obtain ⟨p, q, r, rfl, hp, hq, hr, lp, lq, lr, h⟩ := h
  refine a2g fun K1 hK1 => ?_
  walk_at "rd"
  unfold thrB at h
  refine ite2 (fun c1 => ?_) (fun c1 => ⟨by decide, fun p1 hp1 => ⟨rfl, rfl, ?_⟩⟩)
  ·rw [decide_eq_false (by lia)] at h
   exact a0m h
  rw [decide_eq_true (show p.natAbs = r.natAbs by lia), Bool.true_and] at h
  have hS : Sub M (updM M p1 (.lst [.int 1, .int (-1)])) := Sub.new hp1
  generalize updM M p1 (.lst [.int 1, .int (-1)]) = M1 at hS ⊢
  have e2 : inT (T.int (↑p.natAbs - ↑q.natAbs)) [T.int 1, T.int (-1)] = decide (p.natAbs + 1 = q.natAbs ∨ q.natAbs + 1 = p.natAbs) := by
   unfold inT
   simp only [List.any_cons, List.any_nil, a3q, Bool.or_false, ← Bool.decide_or]
   exact decide_eq_decide.mpr (by lia)
  rw [e2]
  refine ite2 (fun c2 => ?_) (fun c2 => ?_)
  ·rw [c2] at h
   exact a0v h hS
  have c2' := (Bool.not_eq_false _).mp c2
  rw [c2', Bool.true_and] at h
  suffices hK : K1 [some (.tup [.int p, .int q, .int r]), some (.int p), some (.int q), some (.int r)] M1 by exact hK
  rw [hK1]
  refine a0g fun K2 hK2 => ?_
  walk_at "rd"
  unfold a1h
  dsimp only
  rw [a3q, a3q]
  have hk : K2 [some (.tup [.int p, .int q, .int r]), some (.int p), some (.int q), some (.int r)] M1 ↔ rt3 M Q (.tup [.int (sgnL q r), .int (sgnL p q), .int (sgnL q p)]) M1 ∨ K2 [some (.tup [.int p, .int q, .int r]), some (.int p), some (.int q), some (.int r)] M1 := ⟨.inr, fun z => z.elim (fun z => ?_) id⟩
  ·refine ⟨rfl, rfl, Nat.zero_le _, ite2 (fun c3 => ⟨rfl, rfl, Nat.zero_le _, ite2 (fun c4 => ?_) (fun c4 => ?_)⟩) (fun c3 => ?_)⟩
   ·have e3 : sg p = sg r := of_decide_eq_true c3
    have e4 : ¬ sg p = sg q := of_decide_eq_false c4
    rw [b7C] at e3 e4
    rw [decide_eq_false (fun z => e4 (z (b3p (by lia) e3 hr)))] at h
    exact a0v h hS
   ·have e3 : sg p = sg r := of_decide_eq_true c3
    have e4 : sg p = sg q := by simpa using c4
    rw [b7C] at e3 e4
    rw [decide_eq_true (fun _ => e4)] at h
    exact hk.mpr (.inl (a0v h hS))
   ·have e3 : ¬ sg p = sg r := by simpa using c3
    rw [decide_eq_true (fun z => absurd (by rw [z]) e3)] at h
    exact hk.mpr (.inl (a0v h hS))
  ·rw [hK2]
   walk_at "rd"
   unfold a1h
   dsimp only
   have cm : ∀ x y : Int, y.natAbs < 7 → CMul (sg x) ((y.natAbs : Nat) : Int) := fun x y hy => by
    have := b5l x
    exact .inl ⟨by lia, by lia⟩
   refine ⟨cm _ _ lq, cm _ _ lp, cm _ _ lq, by decide, ?_⟩
   rw [b2o hr, b2o hq, b2o hp]
   exact z
 ·exact h.elim
noncomputable def a1E : Sp3 := fun ts M Q => match ts with
 | [.int n, .tup w, .tup st] => ∃ (ws : List Int) (s : Stp), w = ws.map .int ∧ st = s.t ∧ ws.length ≤ 1000 ∧ n ≤ 6 ∧ WordOK n ws ∧ Q (optT (aft n ws s)) M
 | _ => False
theorem a8d {P : Program} {w : World} {K : PySem.W.Frag} {mg : Str → Option Value} {base : Heap} {f : Addr} {fd : FuncData} {n : Nat}  (F : Fun K "_law_after" "_law_after" a1Z f fd) (hm : mg "_law_after" = some (.ref f)) (hb : a1f K fd ["strands", "word", "step"] []) (Z : Zs mg) (D__law_three : Df P w K mg base n "_law_three" ["part"] a2O) : Df P w K mg base (n + 1) "_law_after" ["strands", "word", "step"] a1E := by
 refine F.dfn hm hb a2h (by intro ts M Q h; unfold a1E at h; first | (split at h <;> first | rfl | exact h.elim) | (obtain ⟨_, _, _, _, _, rfl, _⟩ := h; rfl) | (obtain ⟨_, _, _, _, rfl, _⟩ := h; rfl) | (obtain ⟨_, _, _, rfl, _⟩ := h; rfl) | (obtain ⟨_, _, rfl, _⟩ := h; rfl) | (obtain ⟨_, rfl, _⟩ := h; rfl)) ⟨_, fun cdv A outer s H E hr => (a0c (a0M (i := 3) (h_ix (hv 2) a0f) a2h.nd) (a0c (s_if (HW.ht (w_or (a0t a5a (hv 3) a0f (a0n _)) (a8w (a0t a3v (hv 3) (a0o a0u Z.b_len PySem.boot_len (a0a (hv 1) a0e)) (a0n _))))) (a0j (a0C a5u)) a0D) (a0c (a0M (i := 4) (a2H (hv 1) a4y (a3l (hv 3))) a2h.nd) (a0c (s_if (a0t (a0Y hr.units) (h_ix (hv 2) a0f) a1u (a0n _)) (a0c (s_if (HW.ht (w_or (a0t (a0Y hr.units) (h_ix (hv 2) a0f) a0f (a0n _)) (a8w (a0t b5q (a0o a0R Z.b_abs PyProof.Rows.boot_abs (a0a (h_ix (hv 2) a0f) a0e)) (hv 0) (a0n _))))) (a0j (a0C a5u)) a0D) (a0j (a0C (a0s a0A (a0s a0A (hv 4) (a1A (a0a (h_ix (hv 2) a0f) (a0a (a0s a1R a0f (h_ix (hv 2) a0f)) a0e)))) (a2H (hv 1) (a3l (hv 3)) a4y))))) a0D) (a0c (s_if (a0t (a0Y hr.units) (h_ix (hv 2) a0f) a1u (a0n _)) (a0c (a0M (i := 5) (a2H (hv 1) (a3l (hv 3)) (a3l (a0s a0A (hv 3) a0f))) a2h.nd) (a0c (s_if (HW.ht (w_or (a0t a5a (a0o a0u Z.b_len PySem.boot_len (a0a (hv 5) a0e)) a0f (a0n _)) (a8w (a0t b5o (a0q D__law_three hr (a0a (hv 5) a0e)) a5u (a0n _))))) (a0j (a0C a5u)) a0D) (a0j (a0C (a0s a0A (a0s a0A (hv 4) (a0q D__law_three hr (a0a (hv 5) a0e))) (a2H (hv 1) (a3l (a0s a0A (hv 3) a0f)) a4y)))))) a0D) (a0c (a0M (i := 6) (a2H (hv 1) (a3l (hv 3)) (a3l (a0s a0A (hv 3) a0f))) a2h.nd) (a0c (s_if (a0t a5a (a0o a0u Z.b_len PySem.boot_len (a0a (hv 6) a0e)) a0f (a0n _)) (a0j (a0C a5u)) a0D) (a0c (s_if (a0t (a0Y hr.units) (h_ix (hv 2) a0f) a1u (a0n _)) (a0c (s_if (a0t a5a (a0o a0R Z.b_abs PyProof.Rows.boot_abs (a0a (a0s a1R (a0o a0R Z.b_abs PyProof.Rows.boot_abs (a0a (h_ix (hv 6) a0f) a0e)) (a0o a0R Z.b_abs PyProof.Rows.boot_abs (a0a (h_ix (hv 6) a0f) a0e))) a0e)) a0f (a0n _)) (a0j (a0C a5u)) a0D) (a0j (a0C (a0s a0A (a0s a0A (hv 4) (a1A (a0a (h_ix (hv 6) a0f) (a0a (h_ix (hv 6) a0f) a0e)))) (a2H (hv 1) (a3l (a0s a0A (hv 3) a0f)) a4y))))) a0D) (a0c (s_if (a0t (a3U hr.units) (a0s a0A (h_ix (hv 6) a0f) (h_ix (hv 6) a0f)) a0f (a0n _)) (a0j (a0C a5u)) a0D) (a0j (a0C (a0s a0A (hv 4) (a2H (hv 1) (a3l (a0s a0A (hv 3) a0f)) a4y))))))))))))), fun ts M Q h => ?_⟩
 unfold a1E at h
 split at h
 ·rename_i n w st
  obtain ⟨ws, s, rfl, rfl, hl, h6, hw, h⟩ := h
  have bad : (s.at < 0 ∨ (ws.length : Int) < s.at) → rt3 M Q .non M := fun z => by
   rw [b5b z] at h
   exact a0m h
  cases s with
  | inn a l =>
    show a2l _ _ _ [some (.int n), some (.tup (ws.map .int)), some (.tup [.str "in", .int a, .int l]), none, none, none, none] M
    refine a3j fun K1 hK1 => ?_
    walk_at "rd"
    refine ite2 (fun c1 => bad (.inl c1)) (fun c1 => ite2 (fun c2 => bad (.inr c2)) (fun c2 => ?_))
    clear bad
    obtain ⟨A, R, rfl, hA⟩ := cutI (a := a) (w := ws) (by lia) (by lia)
    rw [b0X (by lia) hA]
    rw [hK1]
    refine a0g fun K2 hK2 => ?_
    walk_at "rd"
    refine ⟨rfl, rfl, Nat.zero_le _, ?_⟩
    rw [if_pos (a1P _ rfl)]
    rw [b0r] at h
    have hb : inB n (A ++ R) a l = a5O n l := by
     unfold inB
     rw [decide_eq_true (by lia)]
     rfl
    rw [hb] at h
    have bad : ¬ LetOK n l → rt3 M Q .non M := fun z => by
     rw [show a5O n l = false from Bool.eq_false_iff.mpr fun y => z (a3f.mp y)] at h
     exact a0m h
    refine ite2 (fun c3 => bad (fun z => z.ne c3)) (fun c3 => ite2 (fun c4 => bad (fun z => by unfold LetOK at z; lia)) (fun c4 => ?_))
    rw [a3f.mpr (by unfold LetOK; lia), if_pos rfl, a8i hA] at h
    rw [b4U (by lia) hA]
    rw [List.length_append] at hl
    refine ⟨by decide, a1q (by lia), a1q (by rw [List.length_map]; lia), ?_⟩
    refine a0m ?_
    unfold optT at h
    simpa using h
  | three a =>
    show a2l _ _ _ [some (.int n), some (.tup (ws.map .int)), some (.tup [.str "three", .int a]), none, none, none, none] M
    refine a3j fun K1 hK1 => ?_
    walk_at "rd"
    refine ite2 (fun c1 => bad (.inl c1)) (fun c1 => ite2 (fun c2 => bad (.inr c2)) (fun c2 => ?_))
    clear bad
    obtain ⟨A, R, rfl, hA⟩ := cutI (a := a) (w := ws) (by lia) (by lia)
    rw [b0X (by lia) hA]
    rw [hK1]
    refine a0g fun K2 hK2 => ?_
    walk_at "rd"
    refine ⟨rfl, rfl, Nat.zero_le _, ?_⟩
    rw [if_neg (by decide +kernel), hK2]
    refine a0g fun K3 hK3 => ?_
    walk_at "rd"
    refine ⟨rfl, rfl, Nat.zero_le _, ?_⟩
    rw [if_pos (a1P _ rfl)]
    rw [a4c] at h
    rw [b0k (by decide) (by lia) hA, a6F (by decide) (by lia) hA]
    rw [List.length_append] at hl c2
    have bad : R.length < 3 → rt3 M Q .non M := fun z => by
     rw [a7t (by rw [List.length_append]; lia)] at h
     exact a0m h
    cases R with
    | nil => rw [if_pos (by simp)]; exact bad (by simp)
    | cons p R =>
    cases R with
    | nil => rw [if_pos (by simp)]; exact bad (by simp)
    | cons q R =>
    cases R with
    | nil => rw [if_pos (by simp)]; exact bad (by simp)
    | cons r R =>
    clear bad
    have lp := hw p (by simp)
    have lq := hw q (by simp)
    have lr := hw r (by simp)
    have e : a0J (A ++ p :: q :: r :: R) a = thrB p q r := Bool.eq_iff_iff.mpr ((a5g (by lia) hA lp.ne lq.ne).trans b3X.symm)
    rw [e, a4B (by lia) hA] at h
    have s3 : ∀ x : Int, LetOK n x → x.natAbs < 7 := fun x hx => by unfold LetOK at hx; lia
    rw [if_neg (by simp)]
    refine ⟨p, q, r, rfl, lp.ne, lq.ne, lr.ne, s3 _ lp, s3 _ lq, s3 _ lr, ?_⟩
    cases c : thrB p q r with
    | false =>
      rw [c] at h
      rw [if_pos (by simp)]
      exact a0m h
    | true =>
      rw [c] at h
      rw [if_neg (by simp)]
      refine ⟨p, q, r, rfl, lp.ne, lq.ne, lr.ne, s3 _ lp, s3 _ lq, s3 _ lr, ?_⟩
      rw [c, if_pos rfl]
      rw [show List.drop (Int.toNat 3) (p :: q :: r :: R) = R from rfl]
      rw [List.length_cons, List.length_cons, List.length_cons] at hl
      refine ⟨a1q (by simp only [List.length_map, List.length_cons, List.length_nil]; lia), a1q (by simp only [List.length_map, List.length_cons, List.length_nil]; lia), a0m ?_⟩
      rw [if_pos rfl] at h
      unfold optT at h
      simpa using h
  | out a =>
    show a2l _ _ _ [some (.int n), some (.tup (ws.map .int)), some (.tup [.str "out", .int a]), none, none, none, none] M
    refine a3j fun K1 hK1 => ?_
    walk_at "rd"
    refine ite2 (fun c1 => bad (.inl c1)) (fun c1 => ite2 (fun c2 => bad (.inr c2)) (fun c2 => ?_))
    clear bad
    obtain ⟨A, R, rfl, hA⟩ := cutI (a := a) (w := ws) (by lia) (by lia)
    rw [b0X (by lia) hA]
    rw [hK1]
    refine a0g fun K2 hK2 => ?_
    walk_at "rd"
    refine ⟨rfl, rfl, Nat.zero_le _, ?_⟩
    rw [if_neg (by decide +kernel), hK2]
    refine a0g fun K3 hK3 => ?_
    walk_at "rd"
    refine ⟨rfl, rfl, Nat.zero_le _, ?_⟩
    rw [if_neg (by decide +kernel), hK3]
    refine a2g fun K4 hK4 => ?_
    walk_at "rd"
    rw [b0k (by decide) (by lia) hA]
    rw [List.length_append] at hl c2
    rw [a6N] at h
    have bad : R.length < 2 → rt3 M Q .non M := fun z => by
     rw [b1g (by rw [List.length_append]; lia)] at h
     exact a0m h
    cases R with
    | nil => rw [if_pos (by simp)]; exact bad (by simp)
    | cons p R =>
    cases R with
    | nil => rw [if_pos (by simp)]; exact bad (by simp)
    | cons q R =>
    clear bad
    have lp := hw p (by simp)
    have lq := hw q (by simp)
    rw [if_neg (by simp), hK4, show List.map T.int (List.take (Int.toNat 2) (p :: q :: R)) = [T.int p, T.int q] from rfl]
    walk_at "rd"
    refine ⟨rfl, rfl, Nat.zero_le _, ?_⟩
    rw [if_neg (by decide +kernel)]
    rw [a9o (by lia) hA] at h
    rw [List.length_cons, List.length_cons] at hl
    refine ite2 (fun c3 => ?_) (fun c3 => ?_)
    ·rw [decide_eq_false (by lia)] at h
     exact a0m h
    ·rw [decide_eq_true (by lia), if_pos rfl] at h
     rw [a6F (by decide) (by lia) hA, show List.drop (Int.toNat 2) (p :: q :: R) = R from rfl]
     unfold outL at h
     rw [a6h (by lia) hA] at h
     refine ⟨a1q (by rw [List.length_map]; lia), a0m ?_⟩
     unfold optT at h
     simpa using h
  | far a =>
    show a2l _ _ _ [some (.int n), some (.tup (ws.map .int)), some (.tup [.str "far", .int a]), none, none, none, none] M
    refine a3j fun K1 hK1 => ?_
    walk_at "rd"
    refine ite2 (fun c1 => bad (.inl c1)) (fun c1 => ite2 (fun c2 => bad (.inr c2)) (fun c2 => ?_))
    clear bad
    obtain ⟨A, R, rfl, hA⟩ := cutI (a := a) (w := ws) (by lia) (by lia)
    rw [b0X (by lia) hA]
    rw [hK1]
    refine a0g fun K2 hK2 => ?_
    walk_at "rd"
    refine ⟨rfl, rfl, Nat.zero_le _, ?_⟩
    rw [if_neg (by decide +kernel), hK2]
    refine a0g fun K3 hK3 => ?_
    walk_at "rd"
    refine ⟨rfl, rfl, Nat.zero_le _, ?_⟩
    rw [if_neg (by decide +kernel), hK3]
    refine a2g fun K4 hK4 => ?_
    walk_at "rd"
    rw [b0k (by decide) (by lia) hA]
    rw [List.length_append] at hl c2
    rw [a6O] at h
    have bad : R.length < 2 → rt3 M Q .non M := fun z => by
     rw [b1h (by rw [List.length_append]; lia)] at h
     exact a0m h
    cases R with
    | nil => rw [if_pos (by simp)]; exact bad (by simp)
    | cons p R =>
    cases R with
    | nil => rw [if_pos (by simp)]; exact bad (by simp)
    | cons q R =>
    clear bad
    have lp := hw p (by simp)
    have lq := hw q (by simp)
    rw [if_neg (by simp), hK4, show List.map T.int (List.take (Int.toNat 2) (p :: q :: R)) = [T.int p, T.int q] from rfl]
    refine a0g fun K5 hK5 => ?_
    walk_at "rd"
    refine ⟨rfl, rfl, Nat.zero_le _, ?_⟩
    rw [if_pos (a1P _ rfl)]
    rw [a9p (by lia) hA] at h
    rw [List.length_cons, List.length_cons] at hl
    refine ite2 (fun c3 => ?_) (fun c3 => ?_)
    ·rw [decide_eq_false (by lia)] at h
     exact a0m h
    ·rw [decide_eq_true (by lia), if_pos rfl, a4d hA] at h
     rw [a6F (by decide) (by lia) hA, show List.drop (Int.toNat 2) (p :: q :: R) = R from rfl]
     refine ⟨by decide, a1q (by lia), a1q (by rw [List.length_map]; lia), a0m ?_⟩
     unfold optT at h
     simpa using h
 ·exact h.elim
noncomputable def a3F : Sp3 := fun ts M Q => match ts with
 | [.int n, .tup w] => ∃ ws : List Int, w = ws.map .int ∧ ws.length ≤ 1000 ∧ WordOK n ws ∧ n ≤ 6 ∧ ∀ p, M p = none → Q (.adr p) (updM M p (.lst ((chL ws).map stT)))
 | _ => False
theorem a9V {P : Program} {w : World} {K : PySem.W.Frag} {mg : Str → Option Value} {base : Heap} {f : Addr} {fd : FuncData} {n : Nat}  (F : Fun K "_law_can" "_law_can" a2t f fd) (hm : mg "_law_can" = some (.ref f)) (hb : a1f K fd ["strands", "word"] []) (Z : Zs mg) (D__law_after : Df P w K mg base n "_law_after" ["strands", "word", "step"] a1E) : Df P w K mg base (n + 1) "_law_can" ["strands", "word"] a3F := by
 refine F.dfn hm hb a4F (by intro ts M Q h; unfold a3F at h; first | (split at h <;> first | rfl | exact h.elim) | (obtain ⟨_, _, _, _, _, rfl, _⟩ := h; rfl) | (obtain ⟨_, _, _, _, rfl, _⟩ := h; rfl) | (obtain ⟨_, _, _, rfl, _⟩ := h; rfl) | (obtain ⟨_, _, rfl, _⟩ := h; rfl) | (obtain ⟨_, rfl, _⟩ := h; rfl)) ⟨_, fun cdv A outer s H E hr => (a0c (a0M (i := 2) (a2A a0e) a4F.nd) (a0c (a4r PassesOwn.never rfl (a4J (a2A (a0a a1u (a0a a1u (a0a a1u a0e))))) (a0Z (i := 3) a4F.nd) (a0j (a5B (a7m (hv 2) (a0a (a2B rfl (a1v Z.b_range (a0a (a0o a0u Z.b_len PySem.boot_len (a0a (hv 1) a0e)) a0e)) (a0F (outer := a0b a2t) (N := ["strands", "word", "found", "kind"]) (N' := ["at", "kind", "strands", "word"]) (ix := [none, some 3, some 0, some 1]) (by decide +kernel) rfl rfl) a1o (fun _ _ _ _ _ => a0S (i := 0) (show List.Nodup (["at", "kind", "strands", "word"] : List Str) by decide +kernel) rfl (Or.inl rfl) (Or.inr rfl)) (fun _ _ _ _ _ => a8y (a0t a8K (a0q D__law_after hr (a0a (hv 2) (a0a (hv 3) (@a1p _ _ _ _ _ _ _ (a1A (a0a (hv 1) (a0a (hv 0) a0e))) a0e)))) a5u (a0n _))) (fun _ _ _ _ _ => (a1A (a0a (hv 1) (a0a (hv 0) a0e))))) a0e))))) (a0j (a0C (hv 2))))), fun ts M Q h => ?_⟩
 unfold a3F at h
 split at h
 ·rename_i n w
  obtain ⟨ws, rfl, hl, hw, hn6, h⟩ := h
  refine a0g fun K1 hK1 => ?_
  walk_at "rd"
  intro p hp
  rw [hK1]
  refine a0g fun K2 hK2 => ?_
  refine a1K fun B hB => ?_
  walk_at "rd"
  refine ⟨by decide, fun p2 hp2 => ?_⟩
  have n2 : p ≠ p2 := fun z => by rw [← z, a0d] at hp2; cases hp2
  simp only [a0d]
  refine ⟨fun i ρ M' => ∃ a, ρ = [some (T.int n), some (T.tup (List.map T.int ws)), some (T.adr p), a] ∧ Sub M M' ∧ M' p = some (.lst ((chP ws i).map stT)) ∧ M' p2 = some (.lst [.str "far", .str "three", .str "out"]), ⟨none, rfl, (Sub.new hp).newr hp2, by rw [a0k n2, a0d]; rfl, a0d⟩, fun i ρ M' z => ?_, ?_, ?_⟩
  ·obtain ⟨a, e, hS, h1, h2⟩ := z
   exact h2
  ·rintro i x ρ M' hx ⟨a, rfl, hS, hM', hM2⟩
   have hk : ∃ (z : Str) (c : Int → Bool) (f : Int → Stp), x = .str z ∧ (a8V ws)[i]? = some (z, c, f) := by
    have hi3 : i < 3 := by have := (List.getElem?_eq_some_iff.mp hx).1; simpa using this
    rcases (show i = 0 ∨ i = 1 ∨ i = 2 by lia) with rfl | rfl | rfl
    ·exact ⟨_, a1D ws, .far, by simpa using hx.symm, rfl⟩
    ·exact ⟨_, a0J ws, .three, by simpa using hx.symm, rfl⟩
    ·exact ⟨_, a1L ws, .out, by simpa using hx.symm, rfl⟩
   obtain ⟨z, c, f, rfl, hkd⟩ := hk
   obtain ⟨hi3, hch, hst, haf⟩ := b2Y ws n hkd
   have hcl := b3I ws i
   rw [hB]
   walk_at "rd"
   rw [hM']
   refine ⟨trivial, by lia, by lia, fun j ys M2 => Sub M' M2 ∧ ys = (chK c f j).map stT, ⟨Sub.refl, rfl⟩, fun _ _ _ _ => trivial, by rw [a0i]; exact a0E (by lia), ?_, ?_⟩
   ·rintro j x1 ys M2 hx1 ⟨hS2, rfl⟩
    obtain ⟨hj, rfl⟩ := a1Q hx1
    refine ⟨by decide, ws, f j, rfl, ?_⟩
    have hst' : (f (j : Nat)).t = [T.str z, T.int (j : Nat)] := by have := hst (j : Nat); unfold stT at this; exact T.tup.inj this
    refine ⟨hst'.symm, hl, hn6, hw, ?_⟩
    have hc := haf (j : Nat)
    dsimp only
    rw [b4X]
    cases ha : aft n ws (f (j : Nat)) with
    | none =>
      rw [ha] at hc
      rw [if_neg (by simp [optT]), if_neg (by rw [← hc]; decide), List.append_nil]
      exact ⟨hS2, rfl⟩
    | some r =>
      rw [ha] at hc
      rw [if_pos (by simp [optT]), if_pos (by rw [← hc]; rfl), List.map_append, List.map_singleton, hst]
      exact ⟨by decide, hS2, rfl⟩
   ·rintro ys M2 ⟨hS2, rfl⟩ p1 hp1
    have n1 : p ≠ p1 := fun z => by rw [← z, hS2 _ _ hM'] at hp1; cases hp1
    have n3 : p2 ≠ p1 := fun z => by rw [← z, hS2 _ _ hM2] at hp1; cases hp1
    rw [a0i, show ((ws.length : Nat) : Int).toNat = ws.length by lia]
    have hcl2 := a8r c f ws.length
    rw [a0k n1, hS2 _ _ hM']
    refine ⟨Nat.le_trans (by simp only [List.length_map]; lia : _ ≤ 20000) (by rw [sizeLine_eq]; decide), _, rfl, ((hS.trans hS2).newr hp1).updF hp, ?_, ?_⟩
    ·rw [hch, List.map_append]
    ·rw [a0k n2.symm, a0k n3]; exact hS2 _ _ hM2
  ·rintro ρ M' ⟨a, rfl, hS, hM', hM2⟩
   rw [hK2]
   walk_at "rd"
   refine a0v (h p hp) fun q v hq => ?_
   by_cases e : q = p
   ·subst e; rw [a0d] at hq; cases hq; exact hM'
   ·rw [a0k e] at hq; exact hS _ _ hq
 ·exact h.elim
noncomputable def a1N : Sp3 := fun ts M Q => match ts with
 | [.adr p, .int n, .tup w, .int m] => ∃ (ws : List Int) (s f : Int), M p = some (.lst [.int s, .int f]) ∧ w = ws.map .int ∧ 1 ≤ n ∧ n ≤ 6 ∧ ws.length ≤ 100 ∧ WordOK n ws ∧ (∀ s' f', Q .non (updM M p (.lst [.int s', .int f']))) ∧ ∀ (st : Stp) (r : List Int) s' f', aft n ws st = some r → ((r.length : Int) ≤ ws.length ∨ (r.length : Int) ≤ m) → Q (.tup st.t) (updM M p (.lst [.int s', .int f']))
 | _ => False
theorem a5L {P : Program} {w : World} {K : PySem.W.Frag} {mg : Str → Option Value} {base : Heap} {f : Addr} {fd : FuncData} {n : Nat}  (F : Fun K "_law_any_step" "_law_any_step" a1d f fd) (hm : mg "_law_any_step" = some (.ref f)) (hb : a1f K fd ["state", "strands", "word", "longest"] []) (Z : Zs mg) (D__law_can : Df P w K mg base n "_law_can" ["strands", "word"] a3F) (D__law_take : Df P w K mg base n "_law_take" ["state", "many"] a0K) (D__law_letter : Df P w K mg base n "_law_letter" ["state", "strands"] a1r) : Df P w K mg base (n + 1) "_law_any_step" ["state", "strands", "word", "longest"] a1N := by
 refine F.dfn hm hb a3O (by intro ts M Q h; unfold a1N at h; first | (split at h <;> first | rfl | exact h.elim) | (obtain ⟨_, _, _, _, _, rfl, _⟩ := h; rfl) | (obtain ⟨_, _, _, _, rfl, _⟩ := h; rfl) | (obtain ⟨_, _, _, rfl, _⟩ := h; rfl) | (obtain ⟨_, _, rfl, _⟩ := h; rfl) | (obtain ⟨_, rfl, _⟩ := h; rfl)) ⟨_, fun cdv A outer s H E hr => (a0c (a0M (i := 4) (a0q D__law_can hr (a0a (hv 1) (a0a (hv 2) a0e))) a3O.nd) (a0c (s_if (HW.ht (a9y (a0t a3v (hv 1) a0f (a0n _)) (a9y (a0t a5b (a0s a0A (a0o a0u Z.b_len PySem.boot_len (a0a (hv 2) a0e)) a0f) (hv 3) (a0n _)) (a6Z (HW.ht (w_or (a0t (a0Y hr.units) (hv 4) (a2A a0e) (a0n _)) (a8w (a0t (a0Y hr.units) (a0q D__law_take hr (a0a (hv 0) (a0a a0f a0e))) a0f (a0n _))))))))) (a0j (a0C (a1A (a0a a1u (a0a (a0q D__law_take hr (a0a (hv 0) (a0a (a0s a0A (a0o a0u Z.b_len PySem.boot_len (a0a (hv 2) a0e)) a0f) a0e))) (a0a (a0q D__law_letter hr (a0a (hv 0) (a0a (hv 1) a0e))) a0e)))))) a0D) (a0c (s_if (a0t (a0Y hr.units) (hv 4) (a2A a0e) (a0n _)) (a0j (a0C a5u)) a0D) (a0j (a0C (h_ix (hv 4) (a0q D__law_take hr (a0a (hv 0) (a0a (a0o a0u Z.b_len PySem.boot_len (a0a (hv 4) a0e)) a0e))))))))), fun ts M Q h => ?_⟩
 unfold a1N at h
 split at h
 ·rename_i p n w m
  obtain ⟨ws, s, f, hM, rfl, h1, h6, hl, hw, h0, h⟩ := h
  refine a0g fun K1 hK1 => ?_
  walk_at "rd"
  refine ⟨ws, rfl, by lia, hw, h6, fun q hq => ?_⟩
  rw [hK1]
  refine a0g fun K2 hK2 => ?_
  walk_at "rd"
  have n2 : p ≠ q := fun z => by rw [← z, hM] at hq; cases hq
  have hin : ∀ M2 s2 f2, 2 ≤ n → (ws.length : Int) + 2 ≤ m → Sub (updM M p (.lst [.int s2, .int f2])) M2 → a0K [T.adr p, T.int ((ws.length : Int) + 1)] M2 fun x M1 => a1r [T.adr p, T.int n] M1 fun x_1 M1 => 0 + 1 + 1 + 1 ≤ sizeLine ∧ rt3 M Q (T.tup [T.str "in", x, x_1]) M1 := by
   intro M2 s2 f2 c1 c2 hS
   refine ⟨s2, f2, hS _ _ a0d, by lia, by lia, fun c s3 f3 c30 c31 => ⟨s3, f3, a0d, by lia, by lia, fun l s4 f4 hlt => ⟨by decide, ?_⟩⟩⟩
   have hi : inB n ws c l = true := by
    unfold inB
    rw [decide_eq_true (by lia), a3f.mpr hlt]; rfl
   refine a0v (h (.inn c l) (inL ws c l) s4 f4 (by rw [b0r, hi, if_pos rfl]) (.inr (by rw [b1L hi]; lia))) ?_
   rw [a3s]
   exact hS.set
  have hk : ∀ M2 s2 f2, M2 q = some (.lst ((chL ws).map stT)) → Sub (updM M p (.lst [.int s2, .int f2])) M2 → K2 [some (.adr p), some (.int n), some (.tup (ws.map .int)), some (.int m), some (.adr q)] M2 := by
   intro M2 s2 f2 hq2 hS
   rw [hK2]
   clear hK2 hK1
   walk_at "rd"
   intro p1 hp1
   have n1 : q ≠ p1 := fun z => by rw [← z, hq2] at hp1; cases hp1
   simp only [a0k n1, hq2, a0d]
   have hS1 := hS.newr hp1 (o := MO.lst [])
   have hq3 : updM M2 p1 (MO.lst []) q = some (.lst ((chL ws).map stT)) := by rw [a0k n1, hq2]
   generalize updM M2 p1 (MO.lst []) = M3 at hS1 hq3 ⊢
   refine ⟨a7C _, rfl, a9E _, ?_⟩
   rw [b2l]
   refine ite2 (fun c => a0v (h0 s2 f2) hS1) (fun c => ?_)
   have hne : 0 < (chL ws).length := by
    cases e : chL ws with
    | nil => rw [e] at c; exact absurd rfl c
    | cons _ _ => exact Nat.succ_pos _
   have hb := b3I ws 3
   have hb2 : (chL ws).length ≤ 300 := by unfold chL; lia
   refine ⟨s2, f2, hS1 _ _ a0d, by rw [List.length_map]; lia, by rw [List.length_map]; lia, fun y s3 f3 y0 y1 => ?_⟩
   rw [List.length_map] at y1
   obtain ⟨st, hst, e⟩ := b7y y0 y1
   simp only [a0k n2.symm, hq3, e]
   have hsm := b4V (n := n) hst
   cases ha : aft n ws st with
   | none => rw [ha] at hsm; cases hsm
   | some r =>
   refine a0v (h st r s3 f3 ha (.inl ?_)) hS1.set
   have := b3J hst ha
   lia
  have hR : Sub (updM M p (.lst [.int s, .int f])) (updM M q (MO.lst (List.map stT (chL ws)))) := by rw [a3P hM]; exact Sub.new hq
  have hq2 : updM M q (MO.lst (List.map stT (chL ws))) q = some (MO.lst (List.map stT (chL ws))) := a0d
  generalize updM M q (MO.lst (List.map stT (chL ws))) = M1 at hR hq2 ⊢
  refine ite2 (fun c1 => ite2 (fun c2 p1 hp1 => ?_) (fun c2 => hk _ s f hq2 hR)) (fun c1 => hk _ s f hq2 hR)
  have n1 : q ≠ p1 := fun z => by rw [← z, hq2] at hp1; cases hp1
  rw [a0k n1, hq2]
  refine ⟨a7C _, rfl, a9E _, ?_⟩
  rw [b2l]
  have hS1 := hR.newr hp1 (o := MO.lst [])
  have hq3 : updM M1 p1 (MO.lst []) q = some (.lst ((chL ws).map stT)) := by rw [a0k n1, hq2]
  generalize updM M1 p1 (MO.lst []) = M3 at hS1 hq3 ⊢
  refine ite2 (fun c => hin _ s f (by lia) c2 hS1) (fun c => ?_)
  refine ⟨s, f, hS1 _ _ a0d, by decide, by decide, fun x s2 f2 x0 x1 => ⟨rfl, Nat.zero_le _, ?_⟩⟩
  have hS2 := hS1.set (u := MO.lst [.int s2, .int f2])
  refine ite2 (fun c => hin _ s2 f2 (by lia) c2 hS2) (fun c => hk _ s2 f2 (by rw [a0k n2.symm, hq3]) hS2)
 ·exact h.elim
noncomputable def a2T : Sp3 := fun ts M Q => match ts with
 | [.tup [.int n, .tup w], .tup mt] => ∃ (ws : List Int) (m : Mv), w = ws.map .int ∧ mt = m.t ∧ PlOK n ws ∧ a3V n ws m = .ok ∧ Q (ptT (mvTo n ws m)) M
 | _ => False
theorem a8c {P : Program} {w : World} {K : PySem.W.Frag} {mg : Str → Option Value} {base : Heap} {f : Addr} {fd : FuncData} {n : Nat}  (F : Fun K "_law_moved" "_law_moved" a1z f fd) (hm : mg "_law_moved" = some (.ref f)) (hb : a1f K fd ["plait", "move"] []) (Z : Zs mg) (D__law_sign : Df P w K mg base n "_law_sign" ["letter"] a1h) (D__law_after : Df P w K mg base n "_law_after" ["strands", "word", "step"] a1E) : Df P w K mg base (n + 1) "_law_moved" ["plait", "move"] a2T := by
 refine F.dfn hm hb a3I (by intro ts M Q h; unfold a2T at h; first | (split at h <;> first | rfl | exact h.elim) | (obtain ⟨_, _, _, _, _, rfl, _⟩ := h; rfl) | (obtain ⟨_, _, _, _, rfl, _⟩ := h; rfl) | (obtain ⟨_, _, _, rfl, _⟩ := h; rfl) | (obtain ⟨_, _, rfl, _⟩ := h; rfl) | (obtain ⟨_, rfl, _⟩ := h; rfl)) ⟨_, fun cdv A outer s H E hr => (a0c (a4s (hv 0) (a9a (n := 2) rfl (a1B (a0Z (i := 2) a3I.nd) (a1B (a0Z (i := 3) a3I.nd) a5H)))) (a0c (s_if (a0t (a0Y hr.units) (h_ix (hv 1) a0f) a1u (a0n _)) (a0j (a0C (a1A (a0a (a0s a0A (hv 2) a0f) (a0a (a0s a0A (hv 3) (a1A (a0a (a0s a0V (h_ix (hv 1) a0f) (hv 2)) a0e))) a0e))))) a0D) (a0c (s_if (a0t (a0Y hr.units) (h_ix (hv 1) a0f) a1u (a0n _)) (a0j (a0C (a1A (a0a (a0s a1R (hv 2) a0f) (a0a (a2H (hv 3) a4y (a3l (h_un a2E a0f))) a0e))))) a0D) (a0c (s_if (a0t (a0Y hr.units) (h_ix (hv 1) a0f) a1u (a0n _)) (a0j (a0C (a1A (a0a (hv 2) (a0a (a1S a1T Z.b_tuple PyProof.Rows.boot_tuple (a0a (a2B rfl (a4J (hv 3)) (a0F (outer := a0b a1z) (N := ["plait", "move", "strands", "word"]) (N' := ["letter", "strands"]) (ix := [none, some 2]) (by decide +kernel) rfl rfl) a1o (fun _ _ _ _ _ => a0S (i := 0) (show List.Nodup (["letter", "strands"] : List Str) by decide +kernel) rfl (Or.inl rfl) (Or.inr rfl)) (fun _ _ _ _ _ => a2K) (fun _ _ _ _ _ => (a0s a0V (a0q D__law_sign hr (a0a (hv 0) a0e)) (a0s a1R (hv 1) (a0o a0R Z.b_abs PyProof.Rows.boot_abs (a0a (hv 0) a0e)))))) a0e)) a0e))))) a0D) (a0c (s_if (a0t (a0Y hr.units) (h_ix (hv 1) a0f) a1u (a0n _)) (a0j (a0C (a1A (a0a (hv 2) (a0a (a0s a0A (a2H (hv 3) (a3l a0f) a4y) (a2H (hv 3) a4y (a3l a0f))) a0e))))) a0D) (a0c (s_if (a0t (a0Y hr.units) (h_ix (hv 1) a0f) a1u (a0n _)) (a0j (a0C (a1A (a0a (hv 2) (a0a (a0s a0A (a2H (hv 3) (a3l (h_un a2E a0f)) a4y) (a2H (hv 3) a4y (a3l (h_un a2E a0f)))) a0e))))) a0D) (a0j (a0C (a1A (a0a (hv 2) (a0a (a0q D__law_after hr (a0a (hv 2) (a0a (hv 3) (a0a (h_ix (hv 1) a0f) a0e)))) a0e))))))))))), fun ts M Q h => ?_⟩
 unfold a2T at h
 split at h
 ·rename_i n w mt
  obtain ⟨ws, m, rfl, rfl, ok, hw, h⟩ := h
  obtain ⟨h1, h6, hl, ho⟩ := ok
  refine a0g fun K1 hK1 => ?_
  walk_at "rd"
  rw [hK1]
  clear hK1
  cases m with
  | more k =>
    show a2l _ _ _ [some (.tup [.int n, .tup (ws.map .int)]), some (.tup [.str "more", .int k]), some (.int n), some (.tup (ws.map .int))] M
    refine a0g fun K2 hK2 => ?_
    walk_at "rd"
    refine ⟨rfl, rfl, by decide, ?_⟩
    rw [if_pos (a1P _ rfl)]
    rw [a5q] at hw
    have hk : k = 1 ∨ k = -1 := by
     split at hw
     ·cases hw
     ·split at hw
      ·assumption
      ·cases hw
    have e5 : List.map T.int ws ++ [T.int (k * n)] = (ws ++ [k * n]).map T.int := by rw [List.map_append]; rfl
    rw [e5]
    exact ⟨.inl ⟨by lia, by lia⟩, by decide, a1q (by lia), by decide, a0m h⟩
  | less =>
    show a2l _ _ _ [some (.tup [.int n, .tup (ws.map .int)]), some (.tup [.str "less"]), some (.int n), some (.tup (ws.map .int))] M
    refine a0g fun K2 hK2 => ?_
    walk_at "rd"
    refine ⟨rfl, rfl, by decide, ?_⟩
    rw [if_neg (by decide +kernel), hK2]
    clear hK2
    refine a0g fun K3 hK3 => ?_
    walk_at "rd"
    refine ⟨rfl, rfl, by decide, ?_⟩
    rw [if_pos (a1P _ rfl)]
    rw [a4m] at hw
    have hw2 : a8h n ws = true := by
     split at hw
     ·assumption
     ·cases hw
    obtain ⟨A, y, rfl, _, _⟩ := a6o.mp hw2
    rw [a8Q, List.dropLast_concat] at h
    rw [a7s]
    exact ⟨by decide, a0m h⟩
  | flip =>
    show a2l _ _ _ [some (.tup [.int n, .tup (ws.map .int)]), some (.tup [.str "flip"]), some (.int n), some (.tup (ws.map .int))] M
    refine a0g fun K2 hK2 => ?_
    walk_at "rd"
    refine ⟨rfl, rfl, by decide, ?_⟩
    rw [if_neg (by decide +kernel), hK2]
    clear hK2
    refine a0g fun K3 hK3 => ?_
    walk_at "rd"
    refine ⟨rfl, rfl, by decide, ?_⟩
    rw [if_neg (by decide +kernel), hK3]
    clear hK3
    refine a0g fun K4 hK4 => ?_
    walk_at "rd"
    refine ⟨rfl, rfl, by decide, ?_⟩
    rw [if_pos (a1P _ rfl)]
    refine ⟨fun i ys M' => ys = ((ws.take i).map (a3w n)).map T.int ∧ M' = M, ⟨rfl, rfl⟩, fun _ _ _ _ => trivial, a0E (by lia), ?_, ?_⟩
    ·rintro i x ys M' hx ⟨rfl, rfl⟩
     obtain ⟨l, hl', rfl⟩ := a0B hx
     have lo := ho l (List.mem_of_getElem? hl')
     unfold a1h
     dsimp only
     have e := b6Q n l lo
     rw [e]
     unfold LetOK at lo
     have s1 := b5l l
     refine ⟨.inl ⟨by lia, by lia⟩, ?_, rfl⟩
     rw [← a0H (a3w n) hl', List.map_append]; rfl
    ·rintro ys M' ⟨rfl, rfl⟩ p hp
     rw [List.take_length]
     exact ⟨by decide, a0v (M0 := M') h (Sub.new hp)⟩
  | round =>
    show a2l _ _ _ [some (.tup [.int n, .tup (ws.map .int)]), some (.tup [.str "round"]), some (.int n), some (.tup (ws.map .int))] M
    refine a0g fun K2 hK2 => ?_
    walk_at "rd"
    refine ⟨rfl, rfl, by decide, ?_⟩
    rw [if_neg (by decide +kernel), hK2]
    clear hK2
    refine a0g fun K3 hK3 => ?_
    walk_at "rd"
    refine ⟨rfl, rfl, by decide, ?_⟩
    rw [if_neg (by decide +kernel), hK3]
    clear hK3
    refine a0g fun K4 hK4 => ?_
    walk_at "rd"
    refine ⟨rfl, rfl, by decide, ?_⟩
    rw [if_neg (by decide +kernel), hK4]
    clear hK4
    refine a0g fun K5 hK5 => ?_
    walk_at "rd"
    refine ⟨rfl, rfl, by decide, ?_⟩
    rw [if_pos (a1P _ rfl)]
    rw [b0Y _ _ (by decide), a5y _ _ (by decide), ← List.map_take, ← List.map_drop, ← List.map_append]
    show _ ∧ _ ∧ _
    exact ⟨a1q (by rw [List.length_map, List.length_map, List.length_drop, List.length_take]; lia), by decide, a0m h⟩
  | back =>
    show a2l _ _ _ [some (.tup [.int n, .tup (ws.map .int)]), some (.tup [.str "back"]), some (.int n), some (.tup (ws.map .int))] M
    refine a0g fun K2 hK2 => ?_
    walk_at "rd"
    refine ⟨rfl, rfl, by decide, ?_⟩
    rw [if_neg (by decide +kernel), hK2]
    clear hK2
    refine a0g fun K3 hK3 => ?_
    walk_at "rd"
    refine ⟨rfl, rfl, by decide, ?_⟩
    rw [if_neg (by decide +kernel), hK3]
    clear hK3
    refine a0g fun K4 hK4 => ?_
    walk_at "rd"
    refine ⟨rfl, rfl, by decide, ?_⟩
    rw [if_neg (by decide +kernel), hK4]
    clear hK4
    refine a0g fun K5 hK5 => ?_
    walk_at "rd"
    refine ⟨rfl, rfl, by decide, ?_⟩
    rw [if_neg (by decide +kernel), hK5]
    clear hK5
    refine a0g fun K6 hK6 => ?_
    walk_at "rd"
    refine ⟨rfl, rfl, by decide, ?_⟩
    rw [if_pos (a1P _ rfl)]
    replace hw : (if ws.isEmpty = true then Why.step else Why.ok) = .ok := hw
    obtain ⟨A, y, rfl⟩ := a5Z (w := ws) (fun z => by rw [z] at hw; cases hw)
    replace h : Q (ptT (n, a6r (A ++ [y]) ++ (A ++ [y]).dropLast)) M := h
    rw [a4o, List.dropLast_concat] at h
    rw [b1S, a7s]
    rw [List.length_append, List.length_singleton] at hl
    show _ ∧ _ ∧ _
    exact ⟨a1q (by rw [List.length_map, List.length_map, List.length_singleton]; lia), by decide, by rw [← List.map_append]; exact a0m h⟩
  | step s =>
    show a2l _ _ _ [some (.tup [.int n, .tup (ws.map .int)]), some (.tup [.str "step", .tup s.t]), some (.int n), some (.tup (ws.map .int))] M
    refine a0g fun K2 hK2 => ?_
    walk_at "rd"
    refine ⟨rfl, rfl, by decide, ?_⟩
    rw [if_neg (by decide +kernel), hK2]
    clear hK2
    refine a0g fun K3 hK3 => ?_
    walk_at "rd"
    refine ⟨rfl, rfl, by decide, ?_⟩
    rw [if_neg (by decide +kernel), hK3]
    clear hK3
    refine a0g fun K4 hK4 => ?_
    walk_at "rd"
    refine ⟨rfl, rfl, by decide, ?_⟩
    rw [if_neg (by decide +kernel), hK4]
    clear hK4
    refine a0g fun K5 hK5 => ?_
    walk_at "rd"
    refine ⟨rfl, rfl, by decide, ?_⟩
    rw [if_neg (by decide +kernel), hK5]
    clear hK5
    refine a0g fun K6 hK6 => ?_
    walk_at "rd"
    refine ⟨rfl, rfl, by decide, ?_⟩
    rw [if_neg (by decide +kernel), hK6]
    clear hK6
    walk_at "rd"
    rw [a4l] at hw
    rw [a6n] at h
    cases e : aft n ws s with
    | none => rw [e] at hw; cases hw
    | some r =>
      rw [e] at h
      refine ⟨ws, s, rfl, rfl, by lia, h6, ho, ?_⟩
      rw [e]
      exact ⟨by decide, a0m h⟩
 ·exact h.elim
noncomputable def a2e : Sp3 := fun ts M Q => match ts with
 | [.tup [.int n, .tup w], .tup mt] => ∃ (ws : List Int) (m : Mv), w = ws.map .int ∧ mt = m.t ∧ PlOK n ws ∧ Q (.str (a3V n ws m).s) M
 | _ => False
theorem a6l {P : Program} {w : World} {K : PySem.W.Frag} {mg : Str → Option Value} {base : Heap} {f : Addr} {fd : FuncData} {n : Nat}  (F : Fun K "_law_why_not" "_law_why_not" a1c f fd) (hm : mg "_law_why_not" = some (.ref f)) (hb : a1f K fd ["plait", "move"] []) (Z : Zs mg) (D__law_after : Df P w K mg base n "_law_after" ["strands", "word", "step"] a1E) : Df P w K mg base (n + 1) "_law_why_not" ["plait", "move"] a2e := by
 refine F.dfn hm hb a1w (by intro ts M Q h; unfold a2e at h; first | (split at h <;> first | rfl | exact h.elim) | (obtain ⟨_, _, _, _, _, rfl, _⟩ := h; rfl) | (obtain ⟨_, _, _, _, rfl, _⟩ := h; rfl) | (obtain ⟨_, _, _, rfl, _⟩ := h; rfl) | (obtain ⟨_, _, rfl, _⟩ := h; rfl) | (obtain ⟨_, rfl, _⟩ := h; rfl)) ⟨_, fun cdv A outer s H E hr => (a0c (a4s (hv 0) (a9a (n := 2) rfl (a1B (a0Z (i := 2) a1w.nd) (a1B (a0Z (i := 3) a1w.nd) a5H)))) (a0c (s_if (a0t (a0Y hr.units) (h_ix (hv 1) a0f) a1u (a0n _)) (a0c (s_if (HW.ht (w_or (a0t (a0Y hr.units) (hv 2) a0f (a0n _)) (a8w (a0t (a0Y hr.units) (a0o a0u Z.b_len PySem.boot_len (a0a (hv 3) a0e)) a0f (a0n _))))) (a0j (a0C a1u)) a0D) (a0j (a0C (h_ix (a2A (a0a a1u (a0a a1u a0e))) (a1S a3i Z.b_int PyProof.Rows.boot_int (a0a (a5w b5p (h_ix (hv 1) a0f) (a2A (a0a a0f (a0a (h_un a2E a0f) a0e))) rfl) a0e)))))) a0D) (a0c (s_if (a0t (a0Y hr.units) (h_ix (hv 1) a0f) a1u (a0n _)) (a0c (b0B (i := 4) rfl (a4J (hv 3)) (a0F (outer := a0b a1c) (N := ["plait", "move", "strands", "word", "last", "there"]) (N' := ["letter", "strands"]) (ix := [none, some 2]) (by decide +kernel) rfl rfl) a1o (fun _ _ _ _ _ => a0S (i := 0) (show List.Nodup (["letter", "strands"] : List Str) by decide +kernel) rfl (Or.inl rfl) (Or.inr rfl)) (fun _ _ _ _ _ => a8y (a0t (a0Y hr.units) (a0o a0R Z.b_abs PyProof.Rows.boot_abs (a0a (hv 0) a0e)) (a0s a1R (hv 1) a0f) (a0n _))) (fun _ _ _ _ _ => (hv 0)) a1w.nd) (a0j (a0C (h_ix (a2A (a0a a1u (a0a a1u a0e))) (a1S a3i Z.b_int PyProof.Rows.boot_int (a0a (b6M (a5w (a0Y hr.units) (a0o a0u Z.b_len PySem.boot_len (a0a (hv 4) a0e)) a0f (a0n _)) (b4M (a5w (a0Y hr.units) (h_ix (hv 4) a0f) (h_ix (hv 3) (h_un a2E a0f)) (a0n _)))) a0e)))))) a0D) (a0c (s_if (a0t b5p (h_ix (hv 1) a0f) (a2A (a0a a1u (a0a a1u a0e))) rfl) (a0j (a0C (h_ix (a2A (a0a a1u (a0a a1u a0e))) (a1S a3i Z.b_int PyProof.Rows.boot_int (a0a (a5w a3v (a0o a0u Z.b_len PySem.boot_len (a0a (hv 3) a0e)) a0f (a0n _)) a0e))))) a0D) (a0c (s_if (a0t (a0Y hr.units) (h_ix (hv 1) a0f) a1u (a0n _)) (a0j (a0C a1u)) a0D) (a0c (a0M (i := 5) (a0q D__law_after hr (a0a (hv 2) (a0a (hv 3) (a0a (h_ix (hv 1) a0f) a0e)))) a1w.nd) (a0c (s_if (a0t b5o (hv 5) a5u (a0n _)) (a0j (a0C a1u)) a0D) (a0j (a0C (h_ix (a2A (a0a a1u (a0a a1u a0e))) (a1S a3i Z.b_int PyProof.Rows.boot_int (a0a (a5w a3v (a0o a0u Z.b_len PySem.boot_len (a0a (hv 5) a0e)) a0f (a0n _)) a0e)))))))))))), fun ts M Q h => ?_⟩
 unfold a2e at h
 split at h
 ·rename_i n w mt
  obtain ⟨ws, m, rfl, rfl, ok, h⟩ := h
  obtain ⟨h1, h6, hl, ho⟩ := ok
  refine a0g fun K1 hK1 => ?_
  walk_at "rd"
  rw [hK1]
  clear hK1
  cases m with
  | more k =>
    show a2l _ _ _ [some (.tup [.int n, .tup (ws.map .int)]), some (.tup [.str "more", .int k]), some (.int n), some (.tup (ws.map .int)), none, none] M
    refine a0g fun K2 hK2 => ?_
    walk_at "rd"
    refine ⟨rfl, rfl, by decide, ?_⟩
    rw [if_pos (a1P _ rfl)]
    rw [a5q] at h
    refine ite2 (fun c => ?_) (fun c => ite2 (fun c2 => ?_) (fun c2 => ?_))
    ·rw [if_pos (.inl c)] at h; exact a0m h
    ·rw [if_pos (.inr (by lia))] at h; exact a0m h
    ·rw [if_neg (by lia)] at h
     refine ⟨by decide, fun p hp => ⟨by decide, fun p1 hp1 => ⟨rfl, rfl, ?_⟩⟩⟩
     have n1 : p ≠ p1 := fun z => by rw [← z, a0d] at hp1; cases hp1
     have hS : Sub M (updM (updM M p (MO.lst [T.str "step", T.str ""])) p1 (MO.lst [T.int 1, T.int (-1)])) := (Sub.new hp).newr hp1
     have e : inT (T.int k) [T.int 1, T.int (-1)] = decide (k = 1 ∨ k = -1) := by
      unfold inT
      rw [List.any_cons, List.any_cons, List.any_nil, Bool.or_false, a3q, a3q, Bool.eq_iff_iff, Bool.or_eq_true, decide_eq_true_eq, decide_eq_true_eq, decide_eq_true_eq]
      constructor <;> (rintro (rfl | rfl) <;> simp)
     rw [a0k n1, a0d, e]
     by_cases c4 : k = 1 ∨ k = -1
     ·rw [if_pos c4] at h
      rw [decide_eq_true c4]
      exact a0v h hS
     ·rw [if_neg c4] at h
      rw [decide_eq_false c4]
      exact a0v h hS
  | less =>
    show a2l _ _ _ [some (.tup [.int n, .tup (ws.map .int)]), some (.tup [.str "less"]), some (.int n), some (.tup (ws.map .int)), none, none] M
    refine a0g fun K2 hK2 => ?_
    walk_at "rd"
    refine ⟨rfl, rfl, by decide, ?_⟩
    rw [if_neg (by decide +kernel), hK2]
    clear hK2
    refine a0g fun K3 hK3 => ?_
    walk_at "rd"
    refine ⟨rfl, rfl, by decide, ?_⟩
    rw [if_pos (a1P _ rfl)]
    rw [a4m, a8T] at h
    refine ⟨fun i ys M' => ys = ((ws.take i).filter fun l => decide ((l.natAbs : Int) = n - 1)).map .int ∧ M' = M, ⟨rfl, rfl⟩, fun _ _ _ _ => trivial, a0E (by lia), ?_, ?_⟩
    ·rintro i x ys M' hx ⟨rfl, rfl⟩
     obtain ⟨l, hl', rfl⟩ := a0B hx
     dsimp only
     have e : (ws.take (i + 1)).filter (fun l => decide ((l.natAbs : Int) = n - 1)) = (ws.take i).filter (fun l => decide ((l.natAbs : Int) = n - 1)) ++ if (l.natAbs : Int) = n - 1 then [l] else [] := by
      rw [List.take_add_one, hl', Option.toList_some, List.filter_append, List.filter_cons, List.filter_nil]
      simp only [decide_eq_true_eq]
     refine ite2 (fun c => ⟨?_, rfl⟩) (fun c => ⟨?_, rfl⟩)
     ·rw [e, if_pos c, List.map_append]; rfl
     ·rw [e, if_neg c, List.append_nil]
    ·rintro ys M' ⟨rfl, rfl⟩ p hp
     rw [List.take_length]
     refine ⟨by decide, fun p1 hp1 => ?_⟩
     have n1 : p ≠ p1 := fun z => by rw [← z, a0d] at hp1; cases hp1
     have hS : Sub M' (updM (updM M' p (MO.lst ((ws.filter fun l => decide ((l.natAbs : Int) = n - 1)).map .int))) p1 (MO.lst [T.str "step", T.str ""])) := (Sub.new hp).newr hp1
     rw [a0k n1, a0d]
     cases hF : ws.filter fun l => decide ((l.natAbs : Int) = n - 1) with
     | nil =>
       rw [hF] at h hS
       dsimp only
       rw [if_neg (by decide)]
       exact a0v h hS
     | cons x X =>
       have hx : x ∈ ws := (List.mem_filter.mp (by rw [hF]; exact List.mem_cons_self)).1
       obtain ⟨A, y, e⟩ := a5Z (w := ws) (fun z => by rw [z] at hx; cases hx)
       cases X with
       | nil =>
         rw [hF] at h hS
         have e2 : atI (List.map T.int ws) (-1) = some (.int y) := by rw [e, List.map_append]; exact b4Z _ _
         have e3 : a6r ws = [y] := by rw [e, a4o]
         have h2 : Q (.str (if decide ([y] = [x]) = true then Why.ok else Why.step).s) M' := by rw [← e3]; exact h
         rw [show List.map T.int [x] = [T.int x] from rfl] at hS ⊢
         dsimp only
         rw [if_pos (show ((([T.int x] : List T).length : Nat) : Int) = 1 from rfl), b1V, e2]
         dsimp only
         refine ⟨rfl, rfl, Nat.zero_le _, ?_⟩
         rw [a3q]
         by_cases c : x = y
         ·rw [decide_eq_true (by rw [c])] at h2
          rw [decide_eq_true c]
          exact a0v h2 hS
         ·rw [decide_eq_false (fun z => c (List.cons.inj z).1.symm)] at h2
          rw [decide_eq_false c]
          exact a0v h2 hS
       | cons x2 X2 =>
         rw [hF] at h hS
         dsimp only
         rw [if_neg (by rw [List.length_map, List.length_cons, List.length_cons]; lia)]
         exact a0v h hS
  | round =>
    show a2l _ _ _ [some (.tup [.int n, .tup (ws.map .int)]), some (.tup [.str "round"]), some (.int n), some (.tup (ws.map .int)), none, none] M
    refine a0g fun K2 hK2 => ?_
    walk_at "rd"
    refine ⟨rfl, rfl, by decide, ?_⟩
    rw [if_neg (by decide +kernel), hK2]
    clear hK2
    refine a0g fun K3 hK3 => ?_
    walk_at "rd"
    refine ⟨rfl, rfl, by decide, ?_⟩
    rw [if_neg (by decide +kernel), hK3]
    clear hK3
    refine a0g fun K4 hK4 => ?_
    walk_at "rd"
    refine ⟨by decide, fun p hp => ⟨rfl, rfl, ?_⟩⟩
    rw [if_pos (by decide +kernel)]
    refine ⟨by decide, fun p1 hp1 => ?_⟩
    have hS : Sub M (updM (updM M p (MO.lst [T.str "round", T.str "back"])) p1 (MO.lst [T.str "step", T.str ""])) := (Sub.new hp).newr hp1
    replace h : Q (.str (if ws.isEmpty = true then Why.step else Why.ok).s) M := h
    cases ws with
    | nil => rw [if_neg (by decide)]; exact a0v h hS
    | cons x B => rw [if_pos (by rw [List.length_cons]; lia)]; exact a0v h hS
  | back =>
    show a2l _ _ _ [some (.tup [.int n, .tup (ws.map .int)]), some (.tup [.str "back"]), some (.int n), some (.tup (ws.map .int)), none, none] M
    refine a0g fun K2 hK2 => ?_
    walk_at "rd"
    refine ⟨rfl, rfl, by decide, ?_⟩
    rw [if_neg (by decide +kernel), hK2]
    clear hK2
    refine a0g fun K3 hK3 => ?_
    walk_at "rd"
    refine ⟨rfl, rfl, by decide, ?_⟩
    rw [if_neg (by decide +kernel), hK3]
    clear hK3
    refine a0g fun K4 hK4 => ?_
    walk_at "rd"
    refine ⟨by decide, fun p hp => ⟨rfl, rfl, ?_⟩⟩
    rw [if_pos (by decide +kernel)]
    refine ⟨by decide, fun p1 hp1 => ?_⟩
    have hS : Sub M (updM (updM M p (MO.lst [T.str "round", T.str "back"])) p1 (MO.lst [T.str "step", T.str ""])) := (Sub.new hp).newr hp1
    replace h : Q (.str (if ws.isEmpty = true then Why.step else Why.ok).s) M := h
    cases ws with
    | nil => rw [if_neg (by decide)]; exact a0v h hS
    | cons x B => rw [if_pos (by rw [List.length_cons]; lia)]; exact a0v h hS
  | flip =>
    show a2l _ _ _ [some (.tup [.int n, .tup (ws.map .int)]), some (.tup [.str "flip"]), some (.int n), some (.tup (ws.map .int)), none, none] M
    refine a0g fun K2 hK2 => ?_
    walk_at "rd"
    refine ⟨rfl, rfl, by decide, ?_⟩
    rw [if_neg (by decide +kernel), hK2]
    clear hK2
    refine a0g fun K3 hK3 => ?_
    walk_at "rd"
    refine ⟨rfl, rfl, by decide, ?_⟩
    rw [if_neg (by decide +kernel), hK3]
    clear hK3
    refine a0g fun K4 hK4 => ?_
    walk_at "rd"
    refine ⟨by decide, fun p hp => ⟨rfl, rfl, ?_⟩⟩
    rw [if_neg (by decide +kernel), hK4]
    clear hK4
    refine a0g fun K5 hK5 => ?_
    walk_at "rd"
    refine ⟨rfl, rfl, by decide, ?_⟩
    rw [if_pos (a1P _ rfl)]
    exact a0v h (Sub.new hp)
  | step s =>
    show a2l _ _ _ [some (.tup [.int n, .tup (ws.map .int)]), some (.tup [.str "step", .tup s.t]), some (.int n), some (.tup (ws.map .int)), none, none] M
    refine a0g fun K2 hK2 => ?_
    walk_at "rd"
    refine ⟨rfl, rfl, by decide, ?_⟩
    rw [if_neg (by decide +kernel), hK2]
    clear hK2
    refine a0g fun K3 hK3 => ?_
    walk_at "rd"
    refine ⟨rfl, rfl, by decide, ?_⟩
    rw [if_neg (by decide +kernel), hK3]
    clear hK3
    refine a0g fun K4 hK4 => ?_
    walk_at "rd"
    refine ⟨by decide, fun p hp => ⟨rfl, rfl, ?_⟩⟩
    rw [if_neg (by decide +kernel), hK4]
    clear hK4
    have hS := Sub.new hp (o := MO.lst [T.str "round", T.str "back"])
    generalize updM M p (MO.lst [T.str "round", T.str "back"]) = M1 at hS ⊢
    refine a0g fun K5 hK5 => ?_
    walk_at "rd"
    refine ⟨rfl, rfl, by decide, ?_⟩
    rw [if_neg (by decide +kernel), hK5]
    clear hK5
    walk_at "rd"
    rw [a4l] at h
    refine ⟨ws, s, rfl, rfl, by lia, h6, ho, ?_⟩
    cases e : aft n ws s with
    | none =>
      rw [e] at h
      unfold optT
      dsimp only
      refine ite2 (fun _ => a0v h hS) (fun c => absurd rfl c)
    | some r =>
      rw [e] at h
      unfold optT
      dsimp only at h ⊢
      refine ite2 (fun c => Bool.noConfusion (show false = true from c)) (fun _ => ⟨by decide, fun p1 hp1 => ?_⟩)
      rw [List.length_map]
      by_cases c : 16 < r.length
      ·rw [if_pos c] at h
       rw [if_pos (by lia)]
       exact a0v h (hS.newr hp1)
      ·rw [if_neg c] at h
       rw [if_neg (by lia)]
       exact a0v h (hS.newr hp1)
 ·exact h.elim
noncomputable def a1O : Sp3 := fun ts M Q => match ts with
 | [.adr p, .tup [.int n, .tup w], .int m] => ∃ (ws : List Int) (s f : Int), M p = some (.lst [.int s, .int f]) ∧ w = ws.map .int ∧ 1 ≤ n ∧ n ≤ 6 ∧ ws.length ≤ 100 ∧ WordOK n ws ∧ ∀ (mv : Mv) s' f', Q (mvT mv) (updM M p (.lst [.int s', .int f']))
 | _ => False
theorem a5M {P : Program} {w : World} {K : PySem.W.Frag} {mg : Str → Option Value} {base : Heap} {f : Addr} {fd : FuncData} {n : Nat}  (F : Fun K "_law_any_move" "_law_any_move" a1e f fd) (hm : mg "_law_any_move" = some (.ref f)) (hb : a1f K fd ["state", "plait", "longest"] []) (Z : Zs mg) (D__law_take : Df P w K mg base n "_law_take" ["state", "many"] a0K) (D__law_any_step : Df P w K mg base n "_law_any_step" ["state", "strands", "word", "longest"] a1N) : Df P w K mg base (n + 1) "_law_any_move" ["state", "plait", "longest"] a1O := by
 refine F.dfn hm hb a0Q (by intro ts M Q h; unfold a1O at h; first | (split at h <;> first | rfl | exact h.elim) | (obtain ⟨_, _, _, _, _, rfl, _⟩ := h; rfl) | (obtain ⟨_, _, _, _, rfl, _⟩ := h; rfl) | (obtain ⟨_, _, _, rfl, _⟩ := h; rfl) | (obtain ⟨_, _, rfl, _⟩ := h; rfl) | (obtain ⟨_, rfl, _⟩ := h; rfl)) ⟨_, fun cdv A outer s H E hr => (a0c (a4s (hv 1) (a9a (n := 2) rfl (a1B (a0Z (i := 3) a0Q.nd) (a1B (a0Z (i := 4) a0Q.nd) a5H)))) (@a0c _ _ _ _ _ (@a0M _ _ _ _ 5 _ _ (@a2A _ _ _ _ (@a1p _ _ _ _ _ _ _ (a1A (a0a a1u a0e)) (@a1p _ _ _ _ _ _ _ (a1A (a0a a1u a0e)) (@a1p _ _ _ _ _ _ _ (a1A (a0a a1u a0e)) (@a1p _ _ _ _ _ _ _ (a1A (a0a a1u a0e)) (@a1p _ _ _ _ _ _ _ (a1A (a0a a1u (a0a a0f a0e))) (@a1p _ _ _ _ _ _ _ (a1A (a0a a1u (a0a (h_un a2E a0f) a0e))) a0e))))))) a0Q.nd rfl (by first | exact Or.inl rfl | exact Or.inr rfl) rfl (by first | exact .inl rfl | exact .inr rfl | assumption)) (a0c (a0M (i := 6) (h_ix (hv 5) (a0q D__law_take hr (a0a (hv 0) (a0a a0f a0e)))) a0Q.nd) (a0c (s_if (a0t (a0Y hr.units) (a0q D__law_take hr (a0a (hv 0) (a0a a0f a0e))) a0f (a0n _)) (a0c (a0M (i := 7) (a0q D__law_any_step hr (a0a (hv 0) (a0a (hv 3) (a0a (hv 4) (a0a (hv 2) a0e))))) a0Q.nd) (a0j (s_if (a0t a8K (hv 7) a5u (a0n _)) (a0j (a0M (i := 6) (a1A (a0a a1u (a0a (hv 7) a0e))) a0Q.nd)) a0D))) a0D) (a0j (a0C (hv 6))))))), fun ts M Q h => ?_⟩
 unfold a1O at h
 split at h
 ·rename_i p n w m
  obtain ⟨ws, s, f, hM, rfl, h1, h6, hl, hw, h⟩ := h
  refine a3j fun K3 hK3 => ?_
  walk_at "rd"
  refine ⟨by decide, by decide, by decide, by decide, by decide, by decide, by decide, fun p1 hp1 => ?_⟩
  have n1 : p ≠ p1 := fun z => by rw [← z, hM] at hp1; cases hp1
  refine ⟨s, f, by rw [a0k n1, hM], by decide, by decide, fun c s2 f2 c0 c1 => ?_⟩
  obtain ⟨mv, e⟩ : ∃ mv : Mv, atI [T.tup [T.str "flip"], T.tup [T.str "round"], T.tup [T.str "back"], T.tup [T.str "less"], T.tup [T.str "more", T.int 1], T.tup [T.str "more", T.int (-1)]] c = some (mvT mv) := by
   rcases (show c = 0 ∨ c = 1 ∨ c = 2 ∨ c = 3 ∨ c = 4 ∨ c = 5 by lia) with rfl | rfl | rfl | rfl | rfl | rfl
   ·exact ⟨.flip, rfl⟩
   ·exact ⟨.round, rfl⟩
   ·exact ⟨.back, rfl⟩
   ·exact ⟨.less, rfl⟩
   ·exact ⟨.more 1, rfl⟩
   ·exact ⟨.more (-1), rfl⟩
  dsimp only
  rw [a0k n1.symm, a0d]
  dsimp only
  rw [e]
  dsimp only
  have hS : Sub (updM M p (.lst [.int s2, .int f2])) (updM (updM M p1 (MO.lst [T.tup [T.str "flip"], T.tup [T.str "round"], T.tup [T.str "back"], T.tup [T.str "less"], T.tup [T.str "more", T.int 1], T.tup [T.str "more", T.int (-1)]])) p (MO.lst [T.int s2, T.int f2])) := by
   have h0 : Sub (updM M p (.lst [.int s, .int f])) (updM M p1 (MO.lst [T.tup [T.str "flip"], T.tup [T.str "round"], T.tup [T.str "back"], T.tup [T.str "less"], T.tup [T.str "more", T.int 1], T.tup [T.str "more", T.int (-1)]])) := by rw [a3P hM]; exact Sub.new hp1
   exact h0.set
  generalize updM (updM M p1 (MO.lst [T.tup [T.str "flip"], T.tup [T.str "round"], T.tup [T.str "back"], T.tup [T.str "less"], T.tup [T.str "more", T.int 1], T.tup [T.str "more", T.int (-1)]])) p (MO.lst [T.int s2, T.int f2]) = M2 at hS ⊢
  rw [hK3]
  clear hK3
  refine a0g fun K4 hK4 => ?_
  have hk : ∀ (mv : Mv) (a : Option T) M4 s4 f4, Sub (updM M p (.lst [.int s4, .int f4])) M4 → K4 [some (.adr p), some (.tup [.int n, .tup (ws.map .int)]), some (.int m), some (.int n), some (.tup (ws.map .int)), some (.adr p1), some (mvT mv), a] M4 := by
   intro mv a M4 s4 f4 hS4
   rw [hK4]
   clear hK4
   walk_at "rd"
   exact a0v (h mv s4 f4) hS4
  walk_at "rd"
  refine ⟨s2, f2, hS _ _ a0d, by decide, by decide, fun d s3 f3 d0 d1 => ⟨rfl, Nat.zero_le _, ite2 (fun hd => ?_) (fun hd => hk mv _ _ s3 f3 hS.set)⟩⟩
  refine ⟨ws, s3, f3, a0d, rfl, h1, h6, hl, hw, fun s5 f5 => ?_, fun st r s5 f5 hst hr => ?_⟩
  ·simp only [a3s]
   refine ite2 (fun c => Bool.noConfusion (show true = false from c)) (fun c => hk mv _ _ s5 f5 hS.set)
  ·simp only [a3s]
   refine ite2 (fun c => ⟨by decide, hk (.step st) _ _ s5 f5 hS.set⟩) (fun c => absurd trivial c)
 ·exact h.elim
noncomputable def okB (B : Int) (p : Int × List Int) : List Mv → Prop
 | [] => p.1 ≤ B
 | m :: L => p.1 ≤ B ∧ okB B (mvTo p.1 p.2 m) L
theorem b0H {B : Int} {m : Mv} : ∀ {A : List Mv} {n : Int} {w : List Int} {p : Int × List Int}, mvs n w A = some p → okB B (n, w) A → (mvTo p.1 p.2 m).1 ≤ B → okB B (n, w) (A ++ [m])
 | [], n, w, p, h, a, b => by obtain rfl := Option.some.inj h; exact ⟨a, b⟩
 | x :: A, n, w, p, h, a, b => by
   rw [a4k] at h
   cases e : a3V n w x with
   | ok => rw [e] at h; exact ⟨a.1, b0H (A := A) h a.2 b⟩
   | step => rw [e] at h; cases h
   | room => rw [e] at h; cases h
noncomputable def a2f : Sp3 := fun ts M Q => match ts with
 | [.adr p, .tup [.int n, .tup w], .int k, .int mo, .int lo] => ∃ (ws : List Int) (s f : Int), M p = some (.lst [.int s, .int f]) ∧ w = ws.map .int ∧ PlOK n ws ∧ 0 ≤ k ∧ k ≤ 30 ∧ ∀ (L : List Mv) (r : Int × List Int) s' f', mvs n ws L = some r → okB (max n mo) (n, ws) L → (L.length : Int) ≤ k → r.1 ≤ max n mo → ∀ q, M q = none → Q (.tup [.adr q, ptT r]) (updM (updM M p (.lst [.int s', .int f'])) q (.lst (L.map mvT)))
 | _ => False
theorem b4z (mv : Mv) : ∃ z r, mvT mv = .tup (.str z :: r) ∧ (eqT (.str z) (.str "more") = true ∨ ∀ n w, (mvTo n w mv).1 ≤ n) := by
 cases mv with
 | more k => exact ⟨_, _, rfl, .inl (by decide +kernel)⟩
 | step s => exact ⟨_, _, rfl, .inr fun n w => Int.le_refl _⟩
 | round => exact ⟨_, _, rfl, .inr fun n w => Int.le_refl _⟩
 | back => exact ⟨_, _, rfl, .inr fun n w => Int.le_refl _⟩
 | flip => exact ⟨_, _, rfl, .inr fun n w => Int.le_refl _⟩
 | less => exact ⟨_, _, rfl, .inr fun n w => show n - 1 ≤ n by lia⟩
theorem b9y (n : Int) (w : List Int) (mv : Mv) : (mvTo n w mv).1 ≤ n + 1 := by
 cases mv with
 | more k => exact Int.le_refl _
 | less => exact (show n - 1 ≤ n + 1 by lia)
 | _ => exact (show n ≤ n + 1 by lia)
theorem b2L : ∀ {L : List Mv} {n : Int} {w : List Int} {p : Int × List Int}, PlOK n w → mvs n w L = some p → PlOK p.1 p.2
 | [], n, w, p, ok, h => by obtain rfl := Option.some.inj h; exact ok
 | m :: L, n, w, p, ok, h => by
   rw [a4k] at h
   cases e : a3V n w m with
   | ok => rw [e] at h; exact b2L (b8p ok e).1 h
   | step => rw [e] at h; cases h
   | room => rw [e] at h; cases h
theorem b4y {A : List Mv} {m : Mv} {n : Int} {w : List Int} {p : Int × List Int} (h : mvs n w A = some p) (hm : a3V p.1 p.2 m = .ok) : mvs n w (A ++ [m]) = some (mvTo p.1 p.2 m) := by
 rw [b1B, h]
 show mvs p.1 p.2 [m] = _
 rw [a4k, hm]
 rfl
theorem a8b {P : Program} {w : World} {K : PySem.W.Frag} {mg : Str → Option Value} {base : Heap} {f : Addr} {fd : FuncData} {n : Nat}  (F : Fun K "_law_moves" "_law_moves" a1Y f fd) (hm : mg "_law_moves" = some (.ref f)) (hb : a1f K fd ["state", "plait", "many", "most", "longest"] []) (Z : Zs mg) (D__law_any_move : Df P w K mg base n "_law_any_move" ["state", "plait", "longest"] a1O) (D__law_why_not : Df P w K mg base n "_law_why_not" ["plait", "move"] a2e) (D__law_moved : Df P w K mg base n "_law_moved" ["plait", "move"] a2T) : Df P w K mg base (n + 1) "_law_moves" ["state", "plait", "many", "most", "longest"] a2f := by
 refine F.dfn hm hb a1G (by intro ts M Q h; unfold a2f at h; first | (split at h <;> first | rfl | exact h.elim) | (obtain ⟨_, _, _, _, _, rfl, _⟩ := h; rfl) | (obtain ⟨_, _, _, _, rfl, _⟩ := h; rfl) | (obtain ⟨_, _, _, rfl, _⟩ := h; rfl) | (obtain ⟨_, _, rfl, _⟩ := h; rfl) | (obtain ⟨_, rfl, _⟩ := h; rfl)) ⟨_, fun cdv A outer s H E hr => (a0c (a0M (i := 5) (a2A a0e) a1G.nd) (a0c (a4r PassesOwn.never rfl (a1v Z.b_range (a0a (hv 2) a0e)) (a0Z (i := 6) a1G.nd) (a0c (a0M (i := 7) (a0q D__law_any_move hr (a0a (hv 0) (a0a (hv 1) (a0a (hv 4) a0e)))) a1G.nd) (a0c (a0M (i := 8) (h_or (a5w (a3U hr.units) (h_ix (hv 7) a0f) a1u (a0n _)) (b4M (b6M (a5w a5a (h_ix (hv 1) a0f) (hv 3) (a0n _)) (b4M (a5w a5a (a0o a0u Z.b_len PySem.boot_len (a0a (h_ix (hv 1) a0f) a0e)) (hv 4) (a0n _)))))) a1G.nd) (a0j (s_if (HW.ht (a9y (a5t (hv 8)) (a6Z (a0t (a0Y hr.units) (a0q D__law_why_not hr (a0a (hv 1) (a0a (hv 7) a0e))) a1u (a0n _))))) (a0c (a5B (a5v (hv 5) (a0a (hv 7) a0e))) (a0j (a0M (i := 1) (a0q D__law_moved hr (a0a (hv 1) (a0a (hv 7) a0e))) a1G.nd))) a0D))))) (a0j (a0C (a1A (a0a (hv 5) (a0a (hv 1) a0e))))))), fun ts M Q h => ?_⟩
 unfold a2f at h
 split at h
 ·rename_i p n w k mo lo
  obtain ⟨ws, s, f, hM, rfl, ok, hk0, hk, h⟩ := h
  refine a0g fun K1 hK1 => ?_
  walk_at "rd"
  intro q hq
  have n2 : p ≠ q := fun z => by rw [← z, hM] at hq; cases hq
  rw [hK1]
  refine a0g fun K2 hK2 => ?_
  refine a1K fun B hB => ?_
  walk_at "rd"
  refine ⟨by lia, by lia, fun i ρ M' => ∃ (L : List Mv) (r : Int × List Int) (s' f' : Int) (a b c : Option T), mvs n ws L = some r ∧ okB (max n mo) (n, ws) L ∧ L.length ≤ i ∧ r.1 ≤ max n mo ∧ ρ = [some (T.adr p), some (ptT r), some (T.int k), some (T.int mo), some (T.int lo), some (T.adr q), a, b, c] ∧ M' q = some (.lst (L.map mvT)) ∧ Sub (updM M p (.lst [.int s', .int f'])) M', ?_, fun _ _ _ _ => trivial, ?_, ?_⟩
  ·refine ⟨[], (n, ws), s, f, none, none, none, rfl, show n ≤ max n mo by lia, Nat.zero_le _, by lia, rfl, a0d, ?_⟩
   rw [a3P hM]
   exact Sub.new hq
  ·rintro i x ρ M' hx ⟨L, ⟨n1, w1⟩, s', f', a, b, c, hL, hB0, hLi, hmo, rfl, hq', hS⟩
   obtain ⟨hi, rfl⟩ := a1Q hx
   have okr := b2L ok hL
   obtain ⟨o1, o2, o3, o4⟩ := id okr
   dsimp only at hmo o1 o2 o3 o4
   rw [hB]
   clear hB
   show a2l _ _ _ [_, some (.tup [.int n1, .tup (w1.map .int)]), _, _, _, _, _, _, _] M'
   refine a0g fun K3 hK3 => ?_
   walk_at "rd"
   refine ⟨w1, s', f', hS _ _ a0d, rfl, o1, o2, by lia, o4, fun mv s2 f2 => ?_⟩
   obtain ⟨z, rr, e, hz⟩ := b4z mv
   rw [hK3]
   clear hK3
   refine a0g fun K4 hK4 => ?_
   rw [e]
   walk_at "rd"
   rw [← e]
   have hSS := hS.set (u := .lst [.int s2, .int f2])
   have hq2 : updM M' p (.lst [.int s2, .int f2]) q = some (.lst (L.map mvT)) := by rw [a0k n2.symm, hq']
   generalize updM M' p (MO.lst [T.int s2, T.int f2]) = M2 at hSS hq2 ⊢
   have hk4 : ∀ b : Bool, (b = true → (mvTo n1 w1 mv).1 ≤ max n mo) → K4 [some (.adr p), some (.tup [.int n1, .tup (w1.map .int)]), some (.int k), some (.int mo), some (.int lo), some (.adr q), some (.int i), some (mvT mv), some (.bl b)] M2 := by
    intro b hb
    rw [hK4]
    clear hK4
    walk_at "rd"
    have stay : ∀ bb : Option T, ∃ (L : List Mv) (r : Int × List Int) (s' f' : Int) (a b c : Option T), mvs n ws L = some r ∧ okB (max n mo) (n, ws) L ∧ L.length ≤ i + 1 ∧ r.1 ≤ max n mo ∧ [some (.adr p), some (.tup [.int n1, .tup (w1.map .int)]), some (.int k), some (.int mo), some (.int lo), some (.adr q), some (.int i), some (mvT mv), bb] = [some (T.adr p), some (ptT r), some (T.int k), some (T.int mo), some (T.int lo), some (T.adr q), a, b, c] ∧ M2 q = some (.lst (L.map mvT)) ∧ Sub (updM M p (.lst [.int s', .int f'])) M2 := fun bb => ⟨L, (n1, w1), s2, f2, _, _, _, hL, hB0, by lia, hmo, rfl, hq2, hSS⟩
    refine ite2 (fun cb => ?_) (fun _ => stay _)
    have hb' := hb cb
    refine ⟨w1, mv, rfl, rfl, okr, rfl, rfl, Nat.zero_le _, ite2 (fun cw => ?_) (fun _ => stay _)⟩
    have hw : a3V n1 w1 mv = .ok := by
     cases e : a3V n1 w1 mv with
     | ok => rfl
     | step => rw [e] at cw; exact absurd cw (by decide +kernel)
     | room => rw [e] at cw; exact absurd cw (by decide +kernel)
    rw [hq2]
    refine ⟨trivial, a0E (by rw [List.length_map]; lia), w1, mv, rfl, rfl, okr, hw, ?_⟩
    refine ⟨L ++ [mv], mvTo n1 w1 mv, s2, f2, _, _, _, b4y hL hw, b0H hL hB0 hb', by rw [List.length_append, List.length_singleton]; lia, hb', rfl, ?_, ?_⟩
    ·rw [a0d, List.map_append]; rfl
    ·exact hSS.updF (by rw [a0k n2.symm]; exact hq)
   refine ⟨rfl, rfl, Nat.zero_le _, ite2 (fun c1 => hk4 true fun _ => ?_) (fun c1 => ite2 (fun c2 => hk4 _ fun _ => ?_) (fun c2 => hk4 _ fun z => Bool.noConfusion z))⟩
   ·rcases hz with hz | hz
    ·rw [hz] at c1; cases c1
    ·have := hz n1 w1; lia
   ·have := b9y n1 w1 mv; lia
  ·rintro ρ M' ⟨L, r, s', f', a, b, c, hL, hB0, hLi, hmo, rfl, hq', hS⟩
   rw [hK2]
   walk_at "rd"
   rw [a0i] at hLi
   exact ⟨by decide, a0v (h L r s' f' hL hB0 (by lia) hmo q hq) (hS.mk1 hq')⟩
 ·exact h.elim
noncomputable def a2S : Sp3 := fun ts M Q => match ts with
 | [.tup t, .adr p] => ∃ (tab : List (List Int)) (s f : Int), t = tab.map tupT ∧ M p = some (.lst [.int s, .int f]) ∧ tabB tab = true ∧ ∀ (tab' : List (List Int)) s' f', tabB tab' = true → tab'.length = tab.length → Q (.tup (tab'.map tupT)) (updM M p (.lst [.int s', .int f']))
 | _ => False
theorem a8a {P : Program} {w : World} {K : PySem.W.Frag} {mg : Str → Option Value} {base : Heap} {f : Addr} {fd : FuncData} {n : Nat}  (F : Fun K "_law_named" "_law_named" a1i f fd) (hm : mg "_law_named" = some (.ref f)) (hb : a1f K fd ["table", "state"] []) (Z : Zs mg) (D__law_take : Df P w K mg base n "_law_take" ["state", "many"] a0K) : Df P w K mg base (n + 1) "_law_named" ["table", "state"] a2S := by
 refine F.dfn hm hb a1F (by intro ts M Q h; unfold a2S at h; first | (split at h <;> first | rfl | exact h.elim) | (obtain ⟨_, _, _, _, _, rfl, _⟩ := h; rfl) | (obtain ⟨_, _, _, _, rfl, _⟩ := h; rfl) | (obtain ⟨_, _, _, rfl, _⟩ := h; rfl) | (obtain ⟨_, _, rfl, _⟩ := h; rfl) | (obtain ⟨_, rfl, _⟩ := h; rfl)) ⟨_, fun cdv A outer s H E hr => (a0c (a0M (i := 2) (a0o a0u Z.b_len PySem.boot_len (a0a (hv 0) a0e)) a1F.nd) (a0c (a0M (i := 3) (a5G Z.b_list Z.b_range (a0a (hv 2) a0e)) a1F.nd) (a0c (a0M (i := 4) (a2B rfl (a1v Z.b_range (a0a (hv 2) a0e)) (a0F (outer := a0b a1i) (N := ["table", "state", "many", "left", "names", "found", "a"]) (N' := ["k", "left", "state"]) (ix := [none, some 3, some 1]) (by decide +kernel) rfl rfl) a1o (fun _ _ _ _ _ => a0S (i := 0) (show List.Nodup (["k", "left", "state"] : List Str) by decide +kernel) rfl (Or.inl rfl) (Or.inr rfl)) (fun _ _ _ _ _ => a2K) (fun _ _ _ _ _ => (b3k (hv 1) (a0a (a0q D__law_take hr (a0a (hv 2) (a0a (a0o a0u Z.b_len PySem.boot_len (a0a (hv 1) a0e)) a0e))) a0e)))) a1F.nd) (a0c (a0M (i := 5) (a2A a0e) a1F.nd) (a0c (a4r PassesOwn.never rfl (a1v Z.b_range (a0a (hv 2) a0e)) (a0Z (i := 6) a1F.nd) (a0j (a5B (a5v (hv 5) (a0a (a1S a1T Z.b_tuple PyProof.Rows.boot_tuple (a0a (a2B rfl (a1v Z.b_range (a0a (hv 2) a0e)) (a0F (outer := a0b a1i) (N := ["table", "state", "many", "left", "names", "found", "a"]) (N' := ["b", "names", "table", "a"]) (ix := [none, some 4, some 0, some 6]) (by decide +kernel) rfl rfl) a1o (fun _ _ _ _ _ => a0S (i := 0) (show List.Nodup (["b", "names", "table", "a"] : List Str) by decide +kernel) rfl (Or.inl rfl) (Or.inr rfl)) (fun _ _ _ _ _ => a2K) (fun _ _ _ _ _ => (h_ix (hv 1) (h_ix (h_ix (hv 2) (a8Z (hv 1) (a0a (hv 3) a0e))) (a8Z (hv 1) (a0a (hv 0) a0e)))))) a0e)) a0e))))) (a0j (a0C (a1S a1T Z.b_tuple PyProof.Rows.boot_tuple (a0a (hv 5) a0e))))))))), fun ts M Q h => ?_⟩
 unfold a2S at h
 split at h
 ·rename_i t p
  obtain ⟨tab, s, f, rfl, hM, ht, h⟩ := h
  have ok := a4C ht
  have l7 := ok.l7
  refine a3j fun K1 hK1 => ?_
  walk_at "rd"
  refine ⟨by constructor <;> lia, fun q hq => ⟨by lia, by lia, fun i ys M' => ∃ (us vs : List Int) (s' f' : Int), ys = us.map T.int ∧ us.length = i ∧ (us ++ vs).Perm (a0l tab.length) ∧ M' = updM (updM M p (.lst [.int s', .int f'])) q (.lst (vs.map T.int)), ?_, fun _ _ _ _ => trivial, by rw [a0i]; exact a0E (by lia), ?_, ?_⟩⟩
  ·refine ⟨[], a0l tab.length, s, f, rfl, rfl, .refl _, ?_⟩
   rw [a1J, a3P hM]
  ·rintro i x ys M' hx ⟨us, vs, s', f', rfl, hul, hperm, rfl⟩
   have hpq : p ≠ q := fun z => by rw [← z, hM] at hq; cases hq
   have hi : i < tab.length := by have := (List.getElem?_eq_some_iff.mp hx).1; rw [a0i] at this; lia
   have hlen : us.length + vs.length = tab.length := by rw [← List.length_append, hperm.length_eq, a0p]; rfl
   rw [a0d]
   dsimp only
   refine ⟨trivial, s', f', by rw [a0k hpq, a0d], by rw [List.length_map]; lia, by rw [List.length_map]; lia, fun c s2 f2 c0 c1 => ?_⟩
   rw [List.length_map] at c1
   dsimp only
   rw [a0k hpq.symm, a0d]
   dsimp only
   obtain ⟨k, rfl⟩ := Int.eq_ofNat_of_zero_le c0
   have hk : k < vs.length := by lia
   refine ⟨c0, by rw [List.length_map]; exact c1, by rw [List.length_map]; lia, ?_⟩
   rw [Int.toNat_natCast, List.getElem?_map, List.getElem?_eq_getElem hk]
   refine ⟨us ++ [vs[k]], vs.eraseIdx k, s2, f2, by rw [List.map_append]; rfl, by rw [List.length_append, hul]; rfl, ?_, ?_⟩
   ·rw [List.append_assoc]
    refine (List.Perm.append_left us ?_).trans hperm
    exact (a4Z hk).symm
   ·rw [b5B hpq, a5C]
  ·rintro ys M' ⟨us, vs, s', f', rfl, hul, hperm, rfl⟩ r hr
   rw [a0i] at hul
   have hv0 : vs = [] := by
    have hlen : us.length + vs.length = tab.length := by rw [← List.length_append, hperm.length_eq, a0p]; rfl
    exact List.eq_nil_of_length_eq_zero (by lia)
   subst hv0
   rw [List.append_nil] at hperm
   have hpq : p ≠ q := fun z => by rw [← z, hM] at hq; cases hq
   have hS0 : Sub (updM M p (.lst [.int s', .int f'])) (updM (updM (updM M p (.lst [.int s', .int f'])) q (.lst (List.map T.int []))) r (.lst (us.map T.int))) := by
    refine Sub.newr (Sub.new ?_) hr
    rw [a0k hpq.symm]; exact hq
   have hMr : (updM (updM (updM M p (.lst [.int s', .int f'])) q (.lst (List.map T.int []))) r (.lst (us.map T.int))) r = some (.lst (us.map T.int)) := a0d
   generalize updM (updM (updM M p (.lst [.int s', .int f'])) q (.lst (List.map T.int []))) r (.lst (us.map T.int)) = M2 at hS0 hMr ⊢
   rw [hK1]
   clear hK1
   refine a2g fun K2 hK2 => ?_
   walk_at "rd"
   intro d hd
   have hrd : r ≠ d := fun z => by rw [← z, hMr] at hd; cases hd
   have hMr2 : (updM M2 d (.lst [])) r = some (.lst (us.map T.int)) := by rw [a0k hrd]; exact hMr
   replace h := h _ s' f' (b4x ok hperm) (by rw [a4L]; rfl)
   generalize updM M p (.lst [.int s', .int f']) = MA at hS0 h
   have hd0 : MA d = none := by
    cases e : MA d with
    | none => rfl
    | some o => rw [hS0 _ _ e] at hd; cases hd
   have hMd2 : (updM M2 d (.lst [])) d = some (.lst []) := a0d
   have hS2 : Sub MA (updM M2 d (.lst [])) := hS0.newr hd
   generalize updM M2 d (.lst []) = M3 at hMr2 hMd2 hS2 ⊢
   refine a1K fun B hB => ?_
   unfold a3Q
   walk_at "rd"
   refine ⟨by lia, by lia, fun i ρ M' => (∃ x1, ρ = [some (T.tup (List.map tupT tab)), some (T.adr p), some (T.int tab.length), some (T.adr q), some (T.adr r), some (T.adr d), x1]) ∧ M' r = some (.lst (us.map T.int)) ∧ M' d = some (.lst (((fnT tab.length (nmF us tab)).take i).map tupT)) ∧ Sub MA M', ⟨⟨_, rfl⟩, hMr2, hMd2, hS2⟩, fun _ _ _ _ => trivial, ?_, ?_⟩
   ·rintro i x ρ M' hx ⟨⟨x1, rfl⟩, hr', hd', hS'⟩
    rw [a1J] at hx
    obtain ⟨a, hx2, rfl⟩ := a0B hx
    have ha : InM tab.length a := a0h.mp (List.mem_of_getElem? hx2)
    rw [hB]
    clear hB
    walk_at "rd"
    rw [hd']
    refine ⟨trivial, by lia, by lia, fun j ys M2 => ys = (((a0l tab.length).take j).map fun b => nmF us tab a b).map T.int ∧ M2 = M', ⟨rfl, rfl⟩, fun _ _ _ _ => trivial, by rw [a0i]; exact a0E (by lia), ?_, ?_⟩
    ·rintro j y ys M2 hy ⟨rfl, rfl⟩
     rw [a1J] at hy
     obtain ⟨b, hy2, rfl⟩ := a0B hy
     have hb : InM tab.length b := a0h.mp (List.mem_of_getElem? hy2)
     have ia := a3n hperm ha
     have ib := a3n hperm hb
     have ig := ok.rng ia.1 ib.1
     have ml : ∀ {x : Int}, InM tab.length x → x ∈ us := fun hx => hperm.mem_iff.mpr (a0h.mpr hx)
     rw [hr']
     walk_at "rd"
     refine ⟨ml ha, ?_⟩
     rw [(a5l ok.rows ia.1).1]
     dsimp only
     rw [hr']
     walk_at "rd"
     refine ⟨ml hb, ?_⟩
     rw [b0w ok.rows ia.1 ib.1]
     dsimp only
     rw [hr']
     dsimp only
     rw [b1O ig.1 (by rw [hperm.length_eq, a0p]; have := ig.2; lia)]
     dsimp only
     rw [← a0H (nmF us tab a) hy2, List.map_append]; rfl
    ·rintro ys M2 ⟨rfl, rfl⟩ p5 hp5
     have hS5 : Sub M2 (updM M2 p5 (MO.lst (((a0l tab.length).take (a1j 0 (tab.length : Int).toNat).length |>.map fun b => nmF us tab a b).map T.int))) := Sub.new hp5
     generalize updM M2 p5 (MO.lst (((a0l tab.length).take (a1j 0 (tab.length : Int).toNat).length |>.map fun b => nmF us tab a b).map T.int)) = M4 at hS5 ⊢
     have hi : i < tab.length := by have := (List.getElem?_eq_some_iff.mp hx2).1; rwa [a0p] at this
     rw [hS5 _ _ hd']
     dsimp only
     refine ⟨a0E (by rw [List.length_map, List.length_take]; lia), ⟨_, rfl⟩, by rw [a0k hrd]; exact hS5 _ _ hr', ?_, (hS'.trans hS5).updF hd0⟩
     rw [a0i, show (tab.length : Int).toNat = (a0l tab.length).length by rw [a0p], List.take_length, Option.some_inj, MO.lst.injEq]
     have e : (fnT tab.length (nmF us tab))[i]? = some ((a0l tab.length).map fun b => nmF us tab a b) := by
      unfold fnT
      rw [List.getElem?_map, hx2]; rfl
     rw [← a0H tupT e]; rfl
   ·rintro ρ M' ⟨⟨x1, rfl⟩, hr', hd', hS'⟩
    rw [hK2]
    walk_at "rd"
    rw [hd']
    dsimp only
    rw [a0i, List.take_of_length_le (by rw [a4L]; exact Nat.le_refl _)]
    exact a0v h hS'
 ·exact h.elim
noncomputable def a2v : Sp3 := fun ts M Q => match ts with
 | [.int a, .int b] => 0 ≤ a ∧ 0 ≤ b ∧ Q (.int (Int.gcd a b)) M
 | _ => False
theorem a6T {P : Program} {w : World} {K : PySem.W.Frag} {mg : Str → Option Value} {base : Heap} {f : Addr} {fd : FuncData} {n : Nat}  (F : Fun K "_law_common" "_law_common" a1I f fd) (hm : mg "_law_common" = some (.ref f)) (hb : a1f K fd ["one", "other"] []) (Z : Zs mg)  : Df P w K mg base (n + 1) "_law_common" ["one", "other"] a2v := by
 refine F.dfn hm hb a4w (by intro ts M Q h; unfold a2v at h; first | (split at h <;> first | rfl | exact h.elim) | (obtain ⟨_, _, _, _, _, rfl, _⟩ := h; rfl) | (obtain ⟨_, _, _, _, rfl, _⟩ := h; rfl) | (obtain ⟨_, _, _, rfl, _⟩ := h; rfl) | (obtain ⟨_, _, rfl, _⟩ := h; rfl) | (obtain ⟨_, rfl, _⟩ := h; rfl)) ⟨_, fun cdv A outer s H E hr => (a0c (b5Q PassesOwn.never (a0t a3v (hv 1) a0f (a0n _)) (a0j (b9b (i := 0) (j := 1) a4w.nd (a0a (hv 1) (a0a (a0s a2u (hv 0) (hv 1)) a0e))))) (a0j (a0C (hv 0)))), fun ts M Q h => ?_⟩
 unfold a2v at h
 split at h
 ·rename_i a b
  obtain ⟨a0, b0, h⟩ := h
  refine a0g fun K1 hK1 => ?_
  unfold b2d
  walk_at "rd"
  refine ⟨fun m ρ M' => ∃ x y : Int, ρ = [some (T.int x), some (T.int y)] ∧ M' = M ∧ 0 ≤ x ∧ 0 ≤ y ∧ m = y.toNat ∧ Int.gcd x y = Int.gcd a b, ⟨_, a, b, rfl, rfl, a0, b0, rfl, rfl⟩, ?_⟩
  rintro m ρ M' ⟨x, y, rfl, rfl, x0, y0, rfl, hg⟩
  walk_at "rd"
  refine ite2 (fun c => ?_) (fun c => ?_)
  ·refine ⟨c, ⟨_, ?_, y, x % y, rfl, y0, Int.emod_nonneg x (by lia), rfl, ?_⟩⟩
   ·have := Int.emod_lt_of_pos x c
    have := Int.emod_nonneg x (show y ≠ 0 by lia)
    lia
   ·rw [← hg]; exact b4N x0 y0
  ·obtain rfl : y = 0 := by lia
   rw [Int.gcd_zero_right] at hg
   rw [hK1]
   walk_at "rd"
   rw [show x = ((x.natAbs : Nat) : Int) by lia, hg]
   exact a0m h
 ·exact h.elim
noncomputable def a2P : Sp3 := fun ts M Q => match ts with
 | [.adr p, .int most] => ∃ (s f : Int), M p = some (.lst [.int s, .int f]) ∧ 1 ≤ most ∧ most ≤ 7 ∧ ∀ (tab : List (List Int)) s' f', tabB tab = true → (tab.length : Int) ≤ most → Q (.tup (tab.map tupT)) (updM M p (.lst [.int s', .int f']))
 | _ => False
theorem a7X {P : Program} {w : World} {K : PySem.W.Frag} {mg : Str → Option Value} {base : Heap} {f : Addr} {fd : FuncData} {n : Nat}  (F : Fun K "_law_table" "_law_table" a0X f fd) (hm : mg "_law_table" = some (.ref f)) (hb : a1f K fd ["state", "most"] []) (Z : Zs mg) (D__law_take : Df P w K mg base n "_law_take" ["state", "many"] a0K) (D__law_named : Df P w K mg base n "_law_named" ["table", "state"] a2S) (D__law_common : Df P w K mg base n "_law_common" ["one", "other"] a2v) : Df P w K mg base (n + 1) "_law_table" ["state", "most"] a2P := by
 refine F.dfn hm hb a1l (by intro ts M Q h; unfold a2P at h; first | (split at h <;> first | rfl | exact h.elim) | (obtain ⟨_, _, _, _, _, rfl, _⟩ := h; rfl) | (obtain ⟨_, _, _, _, rfl, _⟩ := h; rfl) | (obtain ⟨_, _, _, rfl, _⟩ := h; rfl) | (obtain ⟨_, _, rfl, _⟩ := h; rfl) | (obtain ⟨_, rfl, _⟩ := h; rfl)) ⟨_, fun cdv A outer s H E hr => (@a0c _ _ _ _ _ (@a0M _ _ _ _ 2 _ _ (@a2A _ _ _ _ (@a1p _ _ _ _ _ _ _ (a1A (@a1p _ _ _ _ _ _ _ (a1A (a0a a0f (a0a a0f (a0a a0f (a0a a0f a0e))))) (@a1p _ _ _ _ _ _ _ (a1A (a0a a0f (a0a a0f (a0a a0f (a0a a0f a0e))))) (@a1p _ _ _ _ _ _ _ (a1A (a0a a0f (a0a a0f (a0a a0f (a0a a0f a0e))))) (@a1p _ _ _ _ _ _ _ (a1A (a0a a0f (a0a a0f (a0a a0f (a0a a0f a0e))))) a0e))))) (@a1p _ _ _ _ _ _ _ (a1A (@a1p _ _ _ _ _ _ _ (a1A (a0a a0f (a0a a0f (a0a a0f a0e)))) (@a1p _ _ _ _ _ _ _ (a1A (a0a a0f (a0a a0f (a0a a0f a0e)))) (@a1p _ _ _ _ _ _ _ (a1A (a0a a0f (a0a a0f (a0a a0f a0e)))) a0e)))) (@a1p _ _ _ _ _ _ _ (a1A (@a1p _ _ _ _ _ _ _ (a1A (a0a a0f a0e)) a0e)) a0e)))) a1l.nd rfl (by first | exact Or.inl rfl | exact Or.inr rfl) rfl (by first | exact .inl rfl | exact .inr rfl | assumption)) (a0c (a0M (i := 3) (a0q D__law_take hr (a0a (hv 0) (a0a a0f a0e))) a1l.nd) (a0c (s_if (HW.ht (a9y (a0t a5a (hv 3) a0f (a0n _)) (a6Z (a0t a5b (a0o a0u Z.b_len PySem.boot_len (a0a (h_ix (hv 2) (hv 3)) a0e)) (hv 1) (a0n _))))) (a0j (a0C (a0q D__law_named hr (a0a (h_ix (hv 2) (hv 3)) (a0a (hv 0) a0e))))) a0D) (a0c (a0M (i := 4) (a0s a0A a0f (a0q D__law_take hr (a0a (hv 0) (a0a (hv 1) a0e)))) a1l.nd) (a0c (b0B (i := 5) rfl (b0N Z.b_range (a0a a0f (a0a (a0s a0A (hv 4) a0f) a0e))) (a0F (outer := a0b a0X) (N := ["state", "most", "some", "way", "many", "times", "t", "plain"]) (N' := ["k", "many"]) (ix := [none, some 4]) (by decide +kernel) rfl rfl) a1o (fun _ _ _ _ _ => a0S (i := 0) (show List.Nodup (["k", "many"] : List Str) by decide +kernel) rfl (Or.inl rfl) (Or.inr rfl)) (fun _ _ _ _ _ => a8y (a0t (a0Y hr.units) (a0q D__law_common hr (a0a (hv 0) (a0a (hv 1) a0e))) a0f (a0n _))) (fun _ _ _ _ _ => (hv 0)) a1l.nd) (a0c (a0M (i := 6) (h_ix (hv 5) (a0q D__law_take hr (a0a (hv 0) (a0a (a0o a0u Z.b_len PySem.boot_len (a0a (hv 5) a0e)) a0e)))) a1l.nd) (a0c (a0M (i := 7) (a1S a1T Z.b_tuple PyProof.Rows.boot_tuple (a0a (a2B rfl (a1v Z.b_range (a0a (hv 4) a0e)) (a0F (outer := a0b a0X) (N := ["state", "most", "some", "way", "many", "times", "t", "plain"]) (N' := ["a", "many", "t"]) (ix := [none, some 4, some 6]) (by decide +kernel) rfl rfl) a1o (fun _ _ _ _ _ => a0S (i := 0) (show List.Nodup (["a", "many", "t"] : List Str) by decide +kernel) rfl (Or.inr rfl) (Or.inl rfl)) (fun _ _ _ _ _ => a2K) (fun _ _ _ _ _ => (a1S a1T Z.b_tuple PyProof.Rows.boot_tuple (a0a (a2B rfl (a1v Z.b_range (a0a (hv 1) a0e)) (a7v (outer := a0b a0X) (N := ["a", "many", "t"]) (N' := ["b", "t", "a", "many"]) (ix := [none, some 2, some 0, some 1]) (by decide +kernel) rfl rfl) a1o (fun _ _ _ _ _ => a0S (i := 0) (show List.Nodup (["b", "t", "a", "many"] : List Str) by decide +kernel) rfl (Or.inl rfl) (Or.inr rfl)) (fun _ _ _ _ _ => a2K) (fun _ _ _ _ _ => (a0s a2u (a0s a0A (a0s a0V (hv 1) (hv 2)) (a0s a0V (a0s a1R a0f (hv 1)) (hv 0))) (hv 3)))) a0e)))) a0e)) a1l.nd) (a0j (a0C (a0q D__law_named hr (a0a (hv 7) (a0a (hv 0) a0e)))))))))))), fun ts M Q h => ?_⟩
 unfold a2P at h
 split at h
 ·rename_i p most
  obtain ⟨s, f, hM, h1, h7, h⟩ := h
  refine a0g fun K1 hK1 => ?_
  walk_at "rd"
  refine ⟨by decide, by decide, by decide, by decide, by decide, by decide, by decide, by decide, by decide, by decide, by decide, by decide, fun q hq => ?_⟩
  have hpq : p ≠ q := fun z => by rw [← z, hM] at hq; cases hq
  have hMq : (updM M q (MO.lst (a5m.map ttT))) q = some (.lst (a5m.map ttT)) := a0d
  have hMp : (updM M q (MO.lst (a5m.map ttT))) p = some (.lst [.int s, .int f]) := by rw [a0k hpq]; exact hM
  have hS : Sub (updM M p (.lst [.int s, .int f])) (updM M q (MO.lst (a5m.map ttT))) := by rw [a3P hM]; exact Sub.new hq
  show K1 _ (updM M q (MO.lst (a5m.map ttT)))
  generalize updM M q (MO.lst (a5m.map ttT)) = M1 at hMq hMp hS ⊢
  rw [hK1]
  clear hK1
  refine a2g fun K2 hK2 => ?_
  walk_at "rd"
  refine ⟨s, f, hMp, by decide, by decide, fun c s2 f2 c0 c5 => ?_⟩
  have hS2 : Sub (updM M p (.lst [.int s2, .int f2])) (updM M1 p (.lst [.int s2, .int f2])) := hS.set
  have hMp2 : (updM M1 p (.lst [.int s2, .int f2])) p = some (.lst [.int s2, .int f2]) := a0d
  have hMq2 : (updM M1 p (.lst [.int s2, .int f2])) q = some (.lst (a5m.map ttT)) := by rw [a0k hpq.symm]; exact hMq
  generalize updM M1 p (.lst [.int s2, .int f2]) = M2 at hS2 hMp2 hMq2 ⊢
  have rest : K2 [some (T.adr p), some (T.int most), some (T.adr q), some (T.int c), none, none, none, none] M2 := by
   rw [hK2]
   clear hK2
   refine a0g fun K3 hK3 => ?_
   walk_at "rd"
   refine ⟨s2, f2, hMp2, by lia, by lia, fun d s3 f3 d0 d1 => ?_⟩
   dsimp only
   have hm1 : 1 ≤ 1 + d := by lia
   have hm7 : 1 + d ≤ 7 := by lia
   have hmm : 1 + d ≤ most := by lia
   generalize 1 + d = m at hm1 hm7 hmm ⊢
   have hS3 : Sub (updM M p (.lst [.int s3, .int f3])) (updM M2 p (.lst [.int s3, .int f3])) := hS2.set
   have hMp3 : (updM M2 p (.lst [.int s3, .int f3])) p = some (.lst [.int s3, .int f3]) := a0d
   generalize updM M2 p (.lst [.int s3, .int f3]) = M3 at hS3 hMp3 ⊢
   rw [hK3]
   clear hK3
   refine a0g fun K4 hK4 => ?_
   walk_at "rd"
   refine ⟨by lia, fun i ys M' => (∃ ks : List Int, ys = ks.map T.int ∧ ks.length ≤ i ∧ (∀ k ∈ ks, 1 ≤ k ∧ k ≤ m ∧ Int.gcd k m = 1) ∧ (1 ≤ i → ks ≠ [])) ∧ M' = M3, ⟨⟨[], rfl, Nat.le_refl _, fun _ z => absurd z List.not_mem_nil, fun z => absurd z (by decide)⟩, rfl⟩, fun _ _ _ _ => trivial, by rw [a0i]; exact a0E (by lia), ?_, ?_⟩
   ·rintro i x ys M' hx ⟨⟨ks, rfl, hkl, hks, hne⟩, rfl⟩
    have hi := (List.getElem?_eq_some_iff.mp hx).1
    rw [a0i] at hi
    unfold a1j at hx
    rw [List.getElem?_map, List.getElem?_range (by lia)] at hx
    obtain rfl := (Option.some.inj hx).symm
    refine ⟨by lia, by lia, by rw [a4X], by rw [a5f]; decide, ?_⟩
    rw [a3q]
    by_cases c : ((Int.gcd (1 + (i : Nat)) m : Nat) : Int) = 1
    ·rw [decide_eq_true c, if_pos rfl]
     refine ⟨⟨ks ++ [(1 : Int) + (i : Nat)], by rw [List.map_append]; rfl, by rw [List.length_append]; exact Nat.succ_le_succ hkl, fun k hk => ?_, fun _ z => by cases ks <;> cases z⟩, rfl⟩
     rcases List.mem_append.mp hk with z | z
     ·exact hks k z
     ·rw [List.mem_singleton.mp z]
      exact ⟨by lia, by lia, by lia⟩
    ·rw [decide_eq_false c, if_neg (by decide)]
     refine ⟨⟨ks, rfl, Nat.le_succ_of_le hkl, hks, fun _ => ?_⟩, rfl⟩
     cases i with
     | zero =>
       refine absurd ?_ c
       rw [show (1 : Int) + ((0 : Nat) : Int) = 1 by lia, Int.one_gcd]; rfl
     | succ i => exact hne (by lia)
   ·rintro ys M' ⟨⟨ks, rfl, hkl, hks, hne⟩, rfl⟩ r hr
    rw [a0i] at hkl hne
    have hpr : p ≠ r := fun z => by rw [← z, hMp3] at hr; cases hr
    rw [hK4]
    clear hK4
    refine a0g fun K5 hK5 => ?_
    walk_at "rd"
    have hkn : 0 < ks.length := List.length_pos_iff.mpr (hne (by lia))
    refine ⟨s3, f3, by rw [a0k hpr]; exact hMp3, by lia, by lia, fun e s4 f4 e0 e1 => ?_⟩
    dsimp only
    rw [a0k hpr.symm, a0d]
    dsimp only
    rw [b1O e0 e1]
    dsimp only
    have ht := hks (gI ks e) (by
     unfold gI
     rw [List.getD_eq_getElem?_getD, List.getElem?_eq_getElem (by lia)]
     exact List.getElem_mem _)
    generalize gI ks e = t at ht ⊢
    obtain ⟨t1, tm, tg⟩ := ht
    have hS4 : Sub (updM M p (.lst [.int s4, .int f4])) (updM (updM M' r (.lst (ks.map T.int))) p (.lst [.int s4, .int f4])) := (hS3.newr hr).set
    have hMp4 : (updM (updM M' r (.lst (ks.map T.int))) p (.lst [.int s4, .int f4])) p = some (.lst [.int s4, .int f4]) := a0d
    generalize updM (updM M' r (.lst (ks.map T.int))) p (.lst [.int s4, .int f4]) = M4 at hS4 hMp4 ⊢
    rw [hK5]
    clear hK5
    refine a0g fun K6 hK6 => ?_
    walk_at "rd"
    refine ⟨by lia, by lia, fun i ys M5 => ys = (((a0l m).take i).map fun a => tupT ((a0l m).map fun b => affF m t a b)) ∧ Sub M4 M5, ⟨rfl, Sub.refl⟩, fun _ _ _ _ => trivial, by rw [a0i]; exact a0E (by lia), ?_, ?_⟩
    ·rintro i x ys M5 hx ⟨rfl, hS5⟩
     rw [a1J] at hx ⊢
     obtain ⟨a, hx2, rfl⟩ := a0B hx
     refine ⟨by lia, by lia, fun j zs M6 => zs = (((a0l m).take j).map fun b => affF m t a b).map T.int ∧ M6 = M5, ⟨rfl, rfl⟩, fun _ _ _ _ => trivial, by rw [List.length_map, a0p]; exact a0E (by lia), ?_, ?_⟩
     ·rintro j y zs M6 hy ⟨rfl, rfl⟩
      obtain ⟨b, hy2, rfl⟩ := a0B hy
      dsimp only
      refine ⟨by unfold CMul; left; constructor <;> lia, by unfold CMul; left; constructor <;> lia, by lia, ?_, rfl⟩
      rw [← a0H (fun b : Int => affF m t a b) hy2, List.map_append]; rfl
     ·rintro zs M6 ⟨rfl, rfl⟩ p7 hp7
      refine ⟨?_, hS5.newr hp7⟩
      rw [List.length_map, List.take_length, ← a0H (fun a : Int => tupT ((a0l m).map fun b => affF m t a b)) hx2]; rfl
    ·rintro ys M5 ⟨rfl, hS5⟩ p7 hp7
     have hS7 := hS5.newr hp7 (o := MO.lst (((a0l m).take (a1j 0 m.toNat).length).map fun a => tupT ((a0l m).map fun b => affF m t a b)))
     generalize updM M5 p7 (MO.lst (((a0l m).take (a1j 0 m.toNat).length).map fun a => tupT ((a0l m).map fun b => affF m t a b))) = M7 at hS7 ⊢
     rw [hK6]
     clear hK6
     walk_at "rd"
     have e : ((a0l m).take (a1j 0 m.toNat).length).map (fun a => tupT ((a0l m).map fun b => affF m t a b)) = (fnT m (affF m t)).map tupT := by
      rw [a0i, show m.toNat = (a0l m).length by rw [a0p], List.take_length]
      unfold fnT
      rw [List.map_map]; rfl
     rw [e]
     refine ⟨fnT m (affF m t), s4, f4, rfl, hS7 _ _ hMp4, b8Q hm1 hm7 t1 tm tg, fun tab' s' f' ht' hl' => ?_⟩
     exact a0v (h tab' s' f' ht' (by rw [hl', a4L]; lia)) (hS4.trans hS7).set
  refine ite2 (fun c3 => ?_) (fun c3 => rest)
  obtain ⟨k, rfl⟩ := Int.eq_ofNat_of_zero_le c0
  have hk : k < a5m.length := by show k < 3; lia
  have hat : atI (a5m.map ttT) (k : Int) = some (ttT a5m[k]) := a2k (by rw [List.getElem?_map, List.getElem?_eq_getElem hk]; rfl)
  have hok := b4b _ (List.getElem_mem hk)
  dsimp only
  rw [hMq2]
  dsimp only
  rw [hat]
  unfold ttT
  dsimp only
  refine ite2 (fun c4 => ?_) (fun c4 => rest)
  rw [List.length_map] at c4
  refine ⟨a5m[k], s2, f2, rfl, hMp2, hok, fun tab' s' f' ht' hl' => ?_⟩
  exact a0v (h tab' s' f' ht' (by rw [hl']; exact c4)) hS2.set
 ·exact h.elim
theorem b1A {p : Int} (h : oddP p = true) : a6Q p := by
 unfold oddP at h
 rw [Bool.and_eq_true, Bool.and_eq_true, decide_eq_true_eq, decide_eq_true_eq, List.all_eq_true] at h
 obtain ⟨⟨h1, h2⟩, h3⟩ := h
 refine ⟨by lia, fun q q2 qp => ?_⟩
 have := h3 (q - 2).toNat (List.mem_range.mpr (by lia))
 rw [decide_eq_true_eq, show 2 + (((q - 2).toNat : Nat) : Int) = q by lia] at this
 exact this
theorem b8q {tab : List (List Int)} (h : TabQ tab) {n : Int} {w : List Int} {m : Mv} (ok : PlOK n w) (hw : a3V n w m = .ok) (h4 : n ≤ 4) : (fixR tab (mvTo n w m).2 (mvTo n w m).1.toNat).length = (fixR tab w n.toNat).length := by
 obtain ⟨n1, n6, hl, how⟩ := ok
 obtain ⟨N, rfl⟩ := Int.eq_ofNat_of_zero_le (show 0 ≤ n by lia)
 rw [Int.toNat_natCast]
 cases m with
 | step s =>
   rw [a4l] at hw
   rw [a6n]
   cases e : aft N w s with
   | none => rw [e] at hw; cases hw
   | some r =>
     dsimp only [Option.getD_some]
     rw [Int.toNat_natCast, b0f h (b3Q how e) how]
 | round =>
   show (fixR tab (w.drop 1 ++ w.take 1) ((N : Int)).toNat).length = _
   rw [Int.toNat_natCast, a8l h (u := w.drop 1) (v := w.take 1) (fun x hx => how x (List.mem_of_mem_drop hx)) (fun x hx => how x (List.mem_of_mem_take hx)), List.take_append_drop]
 | back =>
   have hne : w ≠ [] := fun z => by rw [z] at hw; cases hw
   obtain ⟨A, y, rfl⟩ := a5Z hne
   show (fixR tab (a6r (A ++ [y]) ++ (A ++ [y]).dropLast) ((N : Int)).toNat).length = _
   rw [Int.toNat_natCast, a4o, List.dropLast_concat, a8l h (u := [y]) (v := A) (fun x hx => how x (List.mem_append.mpr (.inr hx))) (fun x hx => how x (List.mem_append.mpr (.inl hx)))]
 | less =>
   rw [a4m] at hw
   have hb : a8h N w = true := by
    cases e : a8h N w with
    | true => rfl
    | false => rw [e] at hw; cases hw
   obtain ⟨A, y, rfl, hy, hA⟩ := a6o.mp hb
   have hly := how y (List.mem_append.mpr (.inr (.head _)))
   obtain ⟨k, rfl⟩ : ∃ k : Nat, N = k + 2 := ⟨N - 2, by have := hly.1; have := hly.2; lia⟩
   show (fixR tab (A ++ [y]).dropLast (((k + 2 : Nat) : Int) - 1).toNat).length = _
   rw [List.dropLast_concat, show (((k + 2 : Nat) : Int) - 1).toNat = k + 1 by lia]
   refine b0P h (fun x hx => ?_) (by lia)
   obtain ⟨a, b⟩ := how x (List.mem_append.mpr (.inl hx))
   have := hA x hx
   exact ⟨a, by lia⟩
 | flip =>
   show (fixR tab (w.map (a3w N)) ((N : Int)).toNat).length = _
   rw [Int.toNat_natCast]
   by_cases c : 2 ≤ N
   ·refine b4Q h c (by lia) (b7g (by lia) (by lia)) how fun x hx => ?_
    obtain ⟨l, hl, rfl⟩ := List.mem_map.mp hx
    exact (how l hl).flip
   ·have : w = [] := by
     cases w with
     | nil => rfl
     | cons l w => have := how l (.head _); have := this.1; have := (how l (.head _)).2; lia
    subst this; rfl
 | more k =>
   obtain ⟨k0, rfl⟩ : ∃ k0 : Nat, N = k0 + 1 := ⟨N - 1, by lia⟩
   have hk : k = 1 ∨ k = -1 := by
    by_cases c : k = 1 ∨ k = -1
    ·exact c
    ·have e : a3V ((k0 + 1 : Nat) : Int) w (.more k) = if ((k0 + 1 : Nat) : Int) = 6 ∨ w.length = 16 then .room else if k = 1 ∨ k = -1 then .ok else .step := rfl
     rw [e, if_neg c] at hw
     split at hw <;> cases hw
   show (fixR tab (w ++ [k * ((k0 + 1 : Nat) : Int)]) (((k0 + 1 : Nat) : Int) + 1).toNat).length = _
   rw [show (((k0 + 1 : Nat) : Int) + 1).toNat = k0 + 2 by lia]
   exact (b0P h how (by rcases hk with rfl | rfl <;> lia)).symm
theorem b2M {tab : List (List Int)} (h : TabQ tab) : ∀ {L : List Mv} {n : Int} {w : List Int} {r : Int × List Int}, PlOK n w → mvs n w L = some r → okB 4 (n, w) L → (fixR tab r.2 r.1.toNat).length = (fixR tab w n.toNat).length
 | [], n, w, r, ok, e, _ => by obtain rfl := Option.some.inj e; rfl
 | m :: L, n, w, r, ok, e, hB => by
   rw [a4k] at e
   cases c : a3V n w m with
   | ok =>
     rw [c] at e
     rw [b2M h (L := L) (b8p ok c).1 e hB.2, b8q h ok c hB.1]
   | step => rw [c] at e; cases e
   | room => rw [c] at e; cases e
noncomputable def a7b : Sp3 := fun ts M Q => match ts with
 | [.rd s] => ∃ ns : List Int, s = ns.map .int ∧ Q (.bl true) M
 | _ => False
theorem b1H (ns : List Int) (M : MH) (Q : VK3) (_ : ns.length ≤ 63) (h : Q (.bl true) M) : a7b [.rd (ns.map .int)] M Q := ⟨ns, rfl, h⟩
theorem b8o {P : Program} {w : World} {K : PySem.W.Frag} {mg : Str → Option Value} {base : Heap} {f : Addr} {fd : FuncData} {n : Nat}  (F : Fun K "law" "law" a7H f fd) (Z : Zs mg) (D__law_state : Df P w K mg base n "_law_state" ["script", "k"] a2Q) (D__law_plait : Df P w K mg base n "_law_plait" ["state", "most", "longest"] a2R) (D__law_moves : Df P w K mg base n "_law_moves" ["state", "plait", "many", "most", "longest"] a2f) (D__law_take : Df P w K mg base n "_law_take" ["state", "many"] a0K) (D__law_table : Df P w K mg base n "_law_table" ["state", "most"] a2P) (D_colourings : Df P w K mg base n "colourings" ["table", "plait"] a2N) (D_free_colours : Df P w K mg base n "free_colours" ["prime", "plait"] a2d) : FnOk P w K mg base CX0 (n + 1) f fd ["script"] (dSp K a7b) := by
 refine F.fnk a7d (by intro ts M Q h; unfold a7b at h; first | (split at h <;> first | rfl | exact h.elim) | (obtain ⟨_, _, _, _, _, rfl, _⟩ := h; rfl) | (obtain ⟨_, _, _, _, rfl, _⟩ := h; rfl) | (obtain ⟨_, _, _, rfl, _⟩ := h; rfl) | (obtain ⟨_, _, rfl, _⟩ := h; rfl) | (obtain ⟨_, rfl, _⟩ := h; rfl)) ⟨_, fun cdv A outer s H E hr => (a0c (a0M (i := 1) (a0q D__law_state hr (a0a (hv 0) (a0a a0f a0e))) a7d.nd) (a0c (a0M (i := 2) (a0q D__law_plait hr (a0a (hv 1) (a0a a0f (a0a a0f a0e)))) a7d.nd) (a0c (a0M (i := 3) (h_ix (a0q D__law_moves hr (a0a (hv 1) (a0a (hv 2) (a0a (a0q D__law_take hr (a0a (hv 1) (a0a a0f a0e))) (a0a a0f (a0a a0f a0e)))))) a0f) a7d.nd) (a0c (a0M (i := 4) (a0q D__law_table hr (a0a (hv 1) (a0a a0f a0e))) a7d.nd) (a0c (s_if (a0t (a3U hr.units) (a0o a0u Z.b_len PySem.boot_len (a0a (a0q D_colourings hr (a0a (hv 4) (a0a (hv 2) a0e))) a0e)) (a0o a0u Z.b_len PySem.boot_len (a0a (a0q D_colourings hr (a0a (hv 4) (a0a (hv 3) a0e))) a0e)) (a0n _)) (a0j (a0C h_bl)) a0D) (a0c (a4r PassesOwn.never rfl (a4J (a2A (a0a a0f (a0a a0f (a0a (h_ix (a2A (a0a a0f (a0a a0f (a0a a0f (a0a a0f (a0a a0f a0e)))))) (a0q D__law_take hr (a0a (hv 1) (a0a a0f a0e)))) a0e))))) (a0Z (i := 5) a7d.nd) (a0j (s_if (a0t (a3U hr.units) (a0q D_free_colours hr (a0a (hv 5) (a0a (hv 2) a0e))) (a0q D_free_colours hr (a0a (hv 5) (a0a (hv 3) a0e))) (a0n _)) (a0j (a0C h_bl)) a0D))) (a0j (a0C h_bl)))))))), fun ts M Q h => ?_⟩
 unfold a7b at h
 split at h
 ·rename_i s
  obtain ⟨ns, rfl, h⟩ := h
  refine a2g fun K1 hK1 => ?_
  walk_at "rd"
  refine ⟨ns, rfl, by decide, by decide, fun p c0 f0 hp => ?_⟩
  refine ⟨c0, f0, a0d, by decide, by decide, by decide, by decide, fun n w s1 f1 hn1 hn6 hwl hw => ?_⟩
  simp only [a3s]
  have hS0 : Sub M (updM M p (.lst [.int s1, .int f1])) := Sub.new hp
  have hMp0 : (updM M p (.lst [.int s1, .int f1])) p = some (.lst [.int s1, .int f1]) := a0d
  generalize updM M p (.lst [.int s1, .int f1]) = M0 at hS0 hMp0 ⊢
  rw [hK1]; clear hK1
  refine a0g fun K2 hK2 => ?_
  walk_at "rd"
  refine ⟨s1, f1, hMp0, by decide, by decide, fun c s2 f2 c0 c7 => ?_⟩
  show a2f [T.adr p, T.tup [T.int n, T.tup (List.map T.int w)], T.int c, T.int 4, T.int 10] _ _
  have ow : PlOK n w := ⟨hn1, by lia, by lia, hw⟩
  refine ⟨w, s2, f2, a0d, rfl, ow, by lia, by lia, fun L r s3 f3 hL hB hLc hr1 q hq => ?_⟩
  rw [a3s]
  obtain ⟨n2, w2⟩ := r
  dsimp only
  rw [b5a]
  dsimp only
  have hr4 : n2 ≤ 4 := by dsimp only at hr1; lia
  have or : PlOK n2 w2 := b2L ow hL
  have hfix : ∀ {tab : List (List Int)}, TabQ tab → (fixR tab w2 n2.toNat).length = (fixR tab w n.toNat).length := fun h => b2M h ow hL (by rwa [show max n 4 = 4 by lia] at hB)
  have hpq : p ≠ q := fun z => by rw [← z, a0d] at hq; cases hq
  have hqM : M0 q = none := by rwa [a0k hpq.symm] at hq
  have hS1 : Sub M (updM (updM M0 p (.lst [.int s3, .int f3])) q (.lst (L.map mvT))) := (hS0.updF hp).newr (by rw [a0k hpq.symm]; exact hqM)
  have hMp1 : (updM (updM M0 p (.lst [.int s3, .int f3])) q (.lst (L.map mvT))) p = some (.lst [.int s3, .int f3]) := by rw [a0k hpq, a0d]
  generalize updM (updM M0 p (.lst [.int s3, .int f3])) q (.lst (L.map mvT)) = M1 at hS1 hMp1 ⊢
  clear hS0 hMp0 hq hqM hpq hL hB
  rw [hK2]; clear hK2
  refine a2g fun K3 hK3 => ?_
  walk_at "rd"
  refine ⟨s3, f3, hMp1, by decide, by decide, fun tab s4 f4 ht htl => ?_⟩
  have hS2 := hS1.updF hp (o := .lst [.int s4, .int f4])
  have hMp2 : (updM M1 p (.lst [.int s4, .int f4])) p = some (.lst [.int s4, .int f4]) := a0d
  generalize updM M1 p (.lst [.int s4, .int f4]) = M2 at hS2 hMp2 ⊢
  have tok := a4C ht
  have hpw : ∀ k : Int, k ≤ 4 → tab.length ^ k.toNat ≤ 2500 := fun k hk => Nat.le_trans (Nat.pow_le_pow_left (show tab.length ≤ 4 by lia) _) (Nat.le_trans (Nat.pow_le_pow_right (by decide) (show k.toNat ≤ 4 by lia)) (by decide))
  unfold ptT
  dsimp only
  refine ⟨tab, w, rfl, rfl, ht, ow, hpw n (by lia), fun d hd => ?_⟩
  have hS3 := hS2.newr hd (o := .lst ((a5A tab w n.toNat).map tupT))
  have hMp3 := (Sub.new hd (o := .lst ((a5A tab w n.toNat).map tupT))) _ _ hMp2
  have hMd : (updM M2 d (.lst ((a5A tab w n.toNat).map tupT))) d = some (.lst ((a5A tab w n.toNat).map tupT)) := a0d
  generalize updM M2 d (.lst ((a5A tab w n.toNat).map tupT)) = M3 at hS3 hMp3 hMd ⊢
  dsimp only
  rw [hMd]
  dsimp only
  refine ⟨tab, w2, rfl, rfl, ht, or, hpw n2 hr4, fun e he => ?_⟩
  have hS4 := hS3.newr he (o := .lst ((a5A tab w2 n2.toNat).map tupT))
  have hMp4 := (Sub.new he (o := .lst ((a5A tab w2 n2.toNat).map tupT))) _ _ hMp3
  have hMe : (updM M3 e (.lst ((a5A tab w2 n2.toNat).map tupT))) e = some (.lst ((a5A tab w2 n2.toNat).map tupT)) := a0d
  generalize updM M3 e (.lst ((a5A tab w2 n2.toNat).map tupT)) = M4 at hS4 hMp4 hMe ⊢
  dsimp only
  rw [hMe]
  dsimp only
  have hlen : (((a5A tab w n.toNat).map tupT).length : Int) = ((a5A tab w2 n2.toNat).map tupT).length := by
   rw [List.length_map, List.length_map]
   have := hfix (a4C ht).toTabQ
   show ((fixR tab w n.toNat).length : Int) = (fixR tab w2 n2.toNat).length
   rw [this]
  rw [if_neg (fun z => z hlen), hK3]; clear hK3
  refine a0g fun K4 hK4 => ?_
  refine a1K fun B hB => ?_
  unfold a3Q
  walk_at "rd"
  refine ⟨by decide, fun u hu => ?_⟩
  have hpu : p ≠ u := fun z => by rw [← z, hMp4] at hu; cases hu
  refine ⟨s4, f4, by rw [a0k hpu]; exact hMp4, by decide, by decide, fun c5 s5 f5 c50 c51 => ?_⟩
  have hS5 := (hS4.newr hu (o := MO.lst [T.int 7, T.int 11, T.int 13, T.int 31, T.int 97])).updF hp (o := .lst [.int s5, .int f5])
  have hMu : (updM (updM M4 u (MO.lst [T.int 7, T.int 11, T.int 13, T.int 31, T.int 97])) p (.lst [.int s5, .int f5])) u = some (MO.lst [T.int 7, T.int 11, T.int 13, T.int 31, T.int 97]) := by rw [a0k hpu.symm, a0d]
  generalize updM (updM M4 u (MO.lst [T.int 7, T.int 11, T.int 13, T.int 31, T.int 97])) p (.lst [.int s5, .int f5]) = M5 at hS5 hMu ⊢
  dsimp only
  rw [hMu]
  dsimp only
  have hpr : ∃ t : Int, atI [T.int 7, T.int 11, T.int 13, T.int 31, T.int 97] c5 = some (.int t) ∧ oddP t = true := by
   obtain ⟨j, rfl⟩ := Int.eq_ofNat_of_zero_le c50
   have hj : j < 5 := by lia
   rcases (show j = 0 ∨ j = 1 ∨ j = 2 ∨ j = 3 ∨ j = 4 by lia) with rfl | rfl | rfl | rfl | rfl
   ·exact ⟨7, rfl, by decide +kernel⟩
   ·exact ⟨11, rfl, by decide +kernel⟩
   ·exact ⟨13, rfl, by decide +kernel⟩
   ·exact ⟨31, rfl, by decide +kernel⟩
   ·exact ⟨97, rfl, by decide +kernel⟩
  obtain ⟨t5, e5, o5⟩ := hpr
  rw [e5]
  dsimp only
  refine ⟨by decide, fun u2 hu2 => ?_⟩
  have hS6 := hS5.newr hu2 (o := MO.lst [T.int 3, T.int 5, T.int t5])
  have hMu2 : (updM M5 u2 (MO.lst [T.int 3, T.int 5, T.int t5])) u2 = some (MO.lst [T.int 3, T.int 5, T.int t5]) := a0d
  generalize updM M5 u2 (MO.lst [T.int 3, T.int 5, T.int t5]) = M6 at hS6 hMu2 ⊢
  refine ⟨fun i ρ M' => M' = M6 ∧ ∃ x, ρ = [some (T.rd (List.map T.int ns)), some (T.adr p), some (T.tup [T.int n, T.tup (List.map T.int w)]), some (T.tup [T.int n2, T.tup (List.map T.int w2)]), some (T.tup (List.map tupT tab)), x], ⟨rfl, _, rfl⟩, ?_, ?_, ?_⟩
  ·rintro i ρ M' ⟨rfl, _⟩
   exact hMu2
  ·rintro i x ρ M' hx ⟨rfl, y, rfl⟩
   obtain ⟨m, rfl, om⟩ : ∃ m : Int, x = .int m ∧ oddP m = true := by
    have hi := (List.getElem?_eq_some_iff.mp hx).1
    rcases (show i = 0 ∨ i = 1 ∨ i = 2 by simp at hi; lia) with rfl | rfl | rfl
    ·exact ⟨3, (Option.some.inj hx).symm, by decide +kernel⟩
    ·exact ⟨5, (Option.some.inj hx).symm, by decide +kernel⟩
    ·exact ⟨t5, (Option.some.inj hx).symm, o5⟩
   have hP := b1A om
   have w1 : WordOK (n.toNat : Nat) w := by rw [show ((n.toNat : Nat) : Int) = n by lia]; exact hw
   have w2' : WordOK (n2.toNat : Nat) w2 := by rw [show ((n2.toNat : Nat) : Int) = n2 by have := or.1; lia]; exact or.2.2.2
   have key := b6P hP w1 w2' (hfix (b0b (by have := hP.1; lia))).symm
   have a1 := b0C (p := m) n.toNat 0 (minU n.toNat (shL (unR n.toNat) w))
   have a2 := b0C (p := m) n2.toNat 0 (minU n2.toNat (shL (unR n2.toNat) w2))
   unfold b0d at key
   have hn20 := or.1
   rw [hB]; clear hB
   walk_at "rd"
   refine ⟨w, rfl, ow, om, w2, rfl, or, om, ?_⟩
   dsimp only
   generalize rkL m n.toNat 0 (minU n.toNat (shL (unR n.toNat) w)) = k1 at key a1 ⊢
   generalize rkL m n2.toNat 0 (minU n2.toNat (shL (unR n2.toNat) w2)) = k2 at key a2 ⊢
   refine ⟨rfl, rfl, by rw [a5f]; decide, ?_⟩
   rw [a3q, decide_eq_true (show n - (k1 : Int) = n2 - (k2 : Int) by lia), if_neg (by decide)]
   exact ⟨rfl, _, rfl⟩
  ·rintro ρ M' ⟨rfl, y, rfl⟩
   rw [hK4]
   walk_at "rd"
   exact a0v h hS6
 ·exact h.elim
theorem b8P {l : PySem.W.OpenLaw} {w : World} {K : PySem.W.Frag} {h : Heap} {mg : Str → Option Value} {fa f1 f2 f3 f4 f5 f6 f7 f8 f9 f10 f11 f12 f13 f14 f15 f16 f17 f18 f19 f20 f21 f22 f23 f24 f25 f26 f27 f28 f29 f30 f31 f32 f33 f34 f35 : Addr} (X : K.In h) (G : h.Ns mainGlobals mg) (hfa : mg "law" = some (.ref fa))
  {od1 od2 od3 od4 od5 od6 od7 od8 od9 od10 od11 od12 od13 od14 od15 od16 od17 od18 od19 od20 od21 od22 od23 od24 od25 od26 od27 od28 od29 od30 od31 od32 od33 od34 od35 an1 an2 an3 an4 an5 an6 an7 an8 an9 an10 an11 an12 an13 an14 an15 an16 an17 an18 an19 an20 an21 an22 an23 an24 an25 an26 an27 an28 an29 an30 an31 an32 an33 an34 an35 : Option Addr} {sl1 sl2 sl3 sl4 sl5 sl6 sl7 sl8 sl9 sl10 sl11 sl12 sl13 sl14 sl15 sl16 sl17 sl18 sl19 sl20 sl21 sl22 sl23 sl24 sl25 sl26 sl27 sl28 sl29 sl30 sl31 sl32 sl33 sl34 sl35 : Array (Option Value)} {oc1 oc2 oc3 oc4 oc5 oc6 oc7 oc8 oc9 oc10 oc11 oc12 oc13 oc14 oc15 oc16 oc17 oc18 oc19 oc20 oc21 oc22 oc23 oc24 oc25 oc26 oc27 oc28 oc29 oc30 oc31 oc32 oc33 oc34 oc35 kV1 kV2 kV3 kV4 kV5 kV6 kV7 kV8 kV9 kV10 kV11 kV12 kV13 kV14 kV15 kV16 kV17 kV18 kV19 kV20 kV21 kV22 kV23 kV24 kV25 kV26 kV27 kV28 kV29 kV30 kV31 kV32 kV33 kV34 kV35 dc1 dc2 dc3 dc4 dc5 dc6 dc7 dc8 dc9 dc10 dc11 dc12 dc13 dc14 dc15 dc16 dc17 dc18 dc19 dc20 dc21 dc22 dc23 dc24 dc25 dc26 dc27 dc28 dc29 dc30 dc31 dc32 dc33 dc34 dc35 pm1 pm2 pm3 pm4 pm5 pm6 pm7 pm8 pm9 pm10 pm11 pm12 pm13 pm14 pm15 pm16 pm17 pm18 pm19 pm20 pm21 pm22 pm23 pm24 pm25 pm26 pm27 pm28 pm29 pm30 pm31 pm32 pm33 pm34 pm35 cd1 cd2 cd3 cd4 cd5 cd6 cd7 cd8 cd9 cd10 cd11 cd12 cd13 cd14 cd15 cd16 cd17 cd18 cd19 cd20 cd21 cd22 cd23 cd24 cd25 cd26 cd27 cd28 cd29 cd30 cd31 cd32 cd33 cd34 cd35 ct1 ct2 ct3 ct4 ct5 ct6 ct7 ct8 ct9 ct10 ct11 ct12 ct13 ct14 ct15 ct16 ct17 ct18 ct19 ct20 ct21 ct22 ct23 ct24 ct25 ct26 ct27 ct28 ct29 ct30 ct31 ct32 ct33 ct34 ct35 : Value}
  (a1 : PySem.W.nsIn K mainGlobals "is_letter" = some (some (.ref f1))) (l1 : K.lookup f1 = some ⟨oc1, od1, .func (PySem.W.fnOf "is_letter" "is_letter" (a0x a2o) (a0w a2o) (a0b a2o) .none kV1 dc1 pm1 an1 cd1 ct1), sl1⟩) (c1 : PySem.W.codeIn K cd1 "is_letter" = true) (k1 : PySem.W.keepIn K (.ref f1) = true)
  (a2 : PySem.W.nsIn K mainGlobals "is_word" = some (some (.ref f2))) (l2 : K.lookup f2 = some ⟨oc2, od2, .func (PySem.W.fnOf "is_word" "is_word" (a0x a3c) (a0w a3c) (a0b a3c) .none kV2 dc2 pm2 an2 cd2 ct2), sl2⟩) (c2 : PySem.W.codeIn K cd2 "is_word" = true) (k2 : PySem.W.keepIn K (.ref f2) = true)
  (a3 : PySem.W.nsIn K mainGlobals "is_plait" = some (some (.ref f3))) (l3 : K.lookup f3 = some ⟨oc3, od3, .func (PySem.W.fnOf "is_plait" "is_plait" (a0x a2Z) (a0w a2Z) (a0b a2Z) .none kV3 dc3 pm3 an3 cd3 ct3), sl3⟩) (c3 : PySem.W.codeIn K cd3 "is_plait" = true) (k3 : PySem.W.keepIn K (.ref f3) = true)
  (a4 : PySem.W.nsIn K mainGlobals "looked" = some (some (.ref f4))) (l4 : K.lookup f4 = some ⟨oc4, od4, .func (PySem.W.fnOf "looked" "looked" (a0x a4j) (a0w a4j) (a0b a4j) .none kV4 dc4 pm4 an4 cd4 ct4), sl4⟩) (c4 : PySem.W.codeIn K cd4 "looked" = true) (k4 : PySem.W.keepIn K (.ref f4) = true)
  (a5 : PySem.W.nsIn K mainGlobals "has_form" = some (some (.ref f5))) (l5 : K.lookup f5 = some ⟨oc5, od5, .func (PySem.W.fnOf "has_form" "has_form" (a0x a2p) (a0w a2p) (a0b a2p) .none kV5 dc5 pm5 an5 cd5 ct5), sl5⟩) (c5 : PySem.W.codeIn K cd5 "has_form" = true) (k5 : PySem.W.keepIn K (.ref f5) = true)
  (a6 : PySem.W.nsIn K mainGlobals "keeps_third_rule" = some (some (.ref f6))) (l6 : K.lookup f6 = some ⟨oc6, od6, .func (PySem.W.fnOf "keeps_third_rule" "keeps_third_rule" (a0x a0P) (a0w a0P) (a0b a0P) .none kV6 dc6 pm6 an6 cd6 ct6), sl6⟩) (c6 : PySem.W.codeIn K cd6 "keeps_third_rule" = true) (k6 : PySem.W.keepIn K (.ref f6) = true)
  (a7 : PySem.W.nsIn K mainGlobals "is_table" = some (some (.ref f7))) (l7 : K.lookup f7 = some ⟨oc7, od7, .func (PySem.W.fnOf "is_table" "is_table" (a0x a1U) (a0w a1U) (a0b a1U) .none kV7 dc7 pm7 an7 cd7 ct7), sl7⟩) (c7 : PySem.W.codeIn K cd7 "is_table" = true) (k7 : PySem.W.keepIn K (.ref f7) = true)
  (a8 : PySem.W.nsIn K mainGlobals "looked_table" = some (some (.ref f8))) (l8 : K.lookup f8 = some ⟨oc8, od8, .func (PySem.W.fnOf "looked_table" "looked_table" (a0x a1s) (a0w a1s) (a0b a1s) .none kV8 dc8 pm8 an8 cd8 ct8), sl8⟩) (c8 : PySem.W.codeIn K cd8 "looked_table" = true) (k8 : PySem.W.keepIn K (.ref f8) = true)
  (a9 : PySem.W.nsIn K mainGlobals "undone" = some (some (.ref f9))) (l9 : K.lookup f9 = some ⟨oc9, od9, .func (PySem.W.fnOf "undone" "undone" (a0x a4i) (a0w a4i) (a0b a4i) .none kV9 dc9 pm9 an9 cd9 ct9), sl9⟩) (c9 : PySem.W.codeIn K cd9 "undone" = true) (k9 : PySem.W.keepIn K (.ref f9) = true)
  (a10 : PySem.W.nsIn K mainGlobals "led_down" = some (some (.ref f10))) (l10 : K.lookup f10 = some ⟨oc10, od10, .func (PySem.W.fnOf "led_down" "led_down" (a0x a2Y) (a0w a2Y) (a0b a2Y) .none kV10 dc10 pm10 an10 cd10 ct10), sl10⟩) (c10 : PySem.W.codeIn K cd10 "led_down" = true) (k10 : PySem.W.keepIn K (.ref f10) = true)
  (a11 : PySem.W.nsIn K mainGlobals "all_rows" = some (some (.ref f11))) (l11 : K.lookup f11 = some ⟨oc11, od11, .func (PySem.W.fnOf "all_rows" "all_rows" (a0x a2q) (a0w a2q) (a0b a2q) .none kV11 dc11 pm11 an11 cd11 ct11), sl11⟩) (c11 : PySem.W.codeIn K cd11 "all_rows" = true) (k11 : PySem.W.keepIn K (.ref f11) = true)
  (a12 : PySem.W.nsIn K mainGlobals "colourings" = some (some (.ref f12))) (l12 : K.lookup f12 = some ⟨oc12, od12, .func (PySem.W.fnOf "colourings" "colourings" (a0x a1y) (a0w a1y) (a0b a1y) .none kV12 dc12 pm12 an12 cd12 ct12), sl12⟩) (c12 : PySem.W.codeIn K cd12 "colourings" = true) (k12 : PySem.W.keepIn K (.ref f12) = true)
  (a13 : PySem.W.nsIn K mainGlobals "is_odd_prime" = some (some (.ref f13))) (l13 : K.lookup f13 = some ⟨oc13, od13, .func (PySem.W.fnOf "is_odd_prime" "is_odd_prime" (a0x a1b) (a0w a1b) (a0b a1b) .none kV13 dc13 pm13 an13 cd13 ct13), sl13⟩) (c13 : PySem.W.codeIn K cd13 "is_odd_prime" = true) (k13 : PySem.W.keepIn K (.ref f13) = true)
  (a14 : PySem.W.nsIn K mainGlobals "twice_less" = some (some (.ref f14))) (l14 : K.lookup f14 = some ⟨oc14, od14, .func (PySem.W.fnOf "twice_less" "twice_less" (a0x a1x) (a0w a1x) (a0b a1x) .none kV14 dc14 pm14 an14 cd14 ct14), sl14⟩) (c14 : PySem.W.codeIn K cd14 "twice_less" = true) (k14 : PySem.W.keepIn K (.ref f14) = true)
  (a15 : PySem.W.nsIn K mainGlobals "shares_behind" = some (some (.ref f15))) (l15 : K.lookup f15 = some ⟨oc15, od15, .func (PySem.W.fnOf "shares_behind" "shares_behind" (a0x a0L) (a0w a0L) (a0b a0L) .none kV15 dc15 pm15 an15 cd15 ct15), sl15⟩) (c15 : PySem.W.codeIn K cd15 "shares_behind" = true) (k15 : PySem.W.keepIn K (.ref f15) = true)
  (a16 : PySem.W.nsIn K mainGlobals "cleared" = some (some (.ref f16))) (l16 : K.lookup f16 = some ⟨oc16, od16, .func (PySem.W.fnOf "cleared" "cleared" (a0x a3d) (a0w a3d) (a0b a3d) .none kV16 dc16 pm16 an16 cd16 ct16), sl16⟩) (c16 : PySem.W.codeIn K cd16 "cleared" = true) (k16 : PySem.W.keepIn K (.ref f16) = true)
  (a17 : PySem.W.nsIn K mainGlobals "rank_of" = some (some (.ref f17))) (l17 : K.lookup f17 = some ⟨oc17, od17, .func (PySem.W.fnOf "rank_of" "rank_of" (a0x a2y) (a0w a2y) (a0b a2y) .none kV17 dc17 pm17 an17 cd17 ct17), sl17⟩) (c17 : PySem.W.codeIn K cd17 "rank_of" = true) (k17 : PySem.W.keepIn K (.ref f17) = true)
  (a18 : PySem.W.nsIn K mainGlobals "free_colours" = some (some (.ref f18))) (l18 : K.lookup f18 = some ⟨oc18, od18, .func (PySem.W.fnOf "free_colours" "free_colours" (a0x a1t) (a0w a1t) (a0b a1t) .none kV18 dc18 pm18 an18 cd18 ct18), sl18⟩) (c18 : PySem.W.codeIn K cd18 "free_colours" = true) (k18 : PySem.W.keepIn K (.ref f18) = true)
  (a19 : PySem.W.nsIn K mainGlobals "_law_state" = some (some (.ref f19))) (l19 : K.lookup f19 = some ⟨oc19, od19, .func (PySem.W.fnOf "_law_state" "_law_state" (a0x a1W) (a0w a1W) (a0b a1W) .none kV19 dc19 pm19 an19 cd19 ct19), sl19⟩) (c19 : PySem.W.codeIn K cd19 "_law_state" = true) (k19 : PySem.W.keepIn K (.ref f19) = true)
  (a20 : PySem.W.nsIn K mainGlobals "_law_take" = some (some (.ref f20))) (l20 : K.lookup f20 = some ⟨oc20, od20, .func (PySem.W.fnOf "_law_take" "_law_take" (a0x a2r) (a0w a2r) (a0b a2r) .none kV20 dc20 pm20 an20 cd20 ct20), sl20⟩) (c20 : PySem.W.codeIn K cd20 "_law_take" = true) (k20 : PySem.W.keepIn K (.ref f20) = true)
  (a21 : PySem.W.nsIn K mainGlobals "_law_letter" = some (some (.ref f21))) (l21 : K.lookup f21 = some ⟨oc21, od21, .func (PySem.W.fnOf "_law_letter" "_law_letter" (a0x a1H) (a0w a1H) (a0b a1H) .none kV21 dc21 pm21 an21 cd21 ct21), sl21⟩) (c21 : PySem.W.codeIn K cd21 "_law_letter" = true) (k21 : PySem.W.keepIn K (.ref f21) = true)
  (a22 : PySem.W.nsIn K mainGlobals "_law_plait" = some (some (.ref f22))) (l22 : K.lookup f22 = some ⟨oc22, od22, .func (PySem.W.fnOf "_law_plait" "_law_plait" (a0x a1X) (a0w a1X) (a0b a1X) .none kV22 dc22 pm22 an22 cd22 ct22), sl22⟩) (c22 : PySem.W.codeIn K cd22 "_law_plait" = true) (k22 : PySem.W.keepIn K (.ref f22) = true)
  (a23 : PySem.W.nsIn K mainGlobals "_law_sign" = some (some (.ref f23))) (l23 : K.lookup f23 = some ⟨oc23, od23, .func (PySem.W.fnOf "_law_sign" "_law_sign" (a0x a2s) (a0w a2s) (a0b a2s) .none kV23 dc23 pm23 an23 cd23 ct23), sl23⟩) (c23 : PySem.W.codeIn K cd23 "_law_sign" = true) (k23 : PySem.W.keepIn K (.ref f23) = true)
  (a24 : PySem.W.nsIn K mainGlobals "_law_three" = some (some (.ref f24))) (l24 : K.lookup f24 = some ⟨oc24, od24, .func (PySem.W.fnOf "_law_three" "_law_three" (a0x a1V) (a0w a1V) (a0b a1V) .none kV24 dc24 pm24 an24 cd24 ct24), sl24⟩) (c24 : PySem.W.codeIn K cd24 "_law_three" = true) (k24 : PySem.W.keepIn K (.ref f24) = true)
  (a25 : PySem.W.nsIn K mainGlobals "_law_after" = some (some (.ref f25))) (l25 : K.lookup f25 = some ⟨oc25, od25, .func (PySem.W.fnOf "_law_after" "_law_after" (a0x a1Z) (a0w a1Z) (a0b a1Z) .none kV25 dc25 pm25 an25 cd25 ct25), sl25⟩) (c25 : PySem.W.codeIn K cd25 "_law_after" = true) (k25 : PySem.W.keepIn K (.ref f25) = true)
  (a26 : PySem.W.nsIn K mainGlobals "_law_can" = some (some (.ref f26))) (l26 : K.lookup f26 = some ⟨oc26, od26, .func (PySem.W.fnOf "_law_can" "_law_can" (a0x a2t) (a0w a2t) (a0b a2t) .none kV26 dc26 pm26 an26 cd26 ct26), sl26⟩) (c26 : PySem.W.codeIn K cd26 "_law_can" = true) (k26 : PySem.W.keepIn K (.ref f26) = true)
  (a27 : PySem.W.nsIn K mainGlobals "_law_any_step" = some (some (.ref f27))) (l27 : K.lookup f27 = some ⟨oc27, od27, .func (PySem.W.fnOf "_law_any_step" "_law_any_step" (a0x a1d) (a0w a1d) (a0b a1d) .none kV27 dc27 pm27 an27 cd27 ct27), sl27⟩) (c27 : PySem.W.codeIn K cd27 "_law_any_step" = true) (k27 : PySem.W.keepIn K (.ref f27) = true)
  (a28 : PySem.W.nsIn K mainGlobals "_law_moved" = some (some (.ref f28))) (l28 : K.lookup f28 = some ⟨oc28, od28, .func (PySem.W.fnOf "_law_moved" "_law_moved" (a0x a1z) (a0w a1z) (a0b a1z) .none kV28 dc28 pm28 an28 cd28 ct28), sl28⟩) (c28 : PySem.W.codeIn K cd28 "_law_moved" = true) (k28 : PySem.W.keepIn K (.ref f28) = true)
  (a29 : PySem.W.nsIn K mainGlobals "_law_why_not" = some (some (.ref f29))) (l29 : K.lookup f29 = some ⟨oc29, od29, .func (PySem.W.fnOf "_law_why_not" "_law_why_not" (a0x a1c) (a0w a1c) (a0b a1c) .none kV29 dc29 pm29 an29 cd29 ct29), sl29⟩) (c29 : PySem.W.codeIn K cd29 "_law_why_not" = true) (k29 : PySem.W.keepIn K (.ref f29) = true)
  (a30 : PySem.W.nsIn K mainGlobals "_law_any_move" = some (some (.ref f30))) (l30 : K.lookup f30 = some ⟨oc30, od30, .func (PySem.W.fnOf "_law_any_move" "_law_any_move" (a0x a1e) (a0w a1e) (a0b a1e) .none kV30 dc30 pm30 an30 cd30 ct30), sl30⟩) (c30 : PySem.W.codeIn K cd30 "_law_any_move" = true) (k30 : PySem.W.keepIn K (.ref f30) = true)
  (a31 : PySem.W.nsIn K mainGlobals "_law_moves" = some (some (.ref f31))) (l31 : K.lookup f31 = some ⟨oc31, od31, .func (PySem.W.fnOf "_law_moves" "_law_moves" (a0x a1Y) (a0w a1Y) (a0b a1Y) .none kV31 dc31 pm31 an31 cd31 ct31), sl31⟩) (c31 : PySem.W.codeIn K cd31 "_law_moves" = true) (k31 : PySem.W.keepIn K (.ref f31) = true)
  (a32 : PySem.W.nsIn K mainGlobals "_law_named" = some (some (.ref f32))) (l32 : K.lookup f32 = some ⟨oc32, od32, .func (PySem.W.fnOf "_law_named" "_law_named" (a0x a1i) (a0w a1i) (a0b a1i) .none kV32 dc32 pm32 an32 cd32 ct32), sl32⟩) (c32 : PySem.W.codeIn K cd32 "_law_named" = true) (k32 : PySem.W.keepIn K (.ref f32) = true)
  (a33 : PySem.W.nsIn K mainGlobals "_law_common" = some (some (.ref f33))) (l33 : K.lookup f33 = some ⟨oc33, od33, .func (PySem.W.fnOf "_law_common" "_law_common" (a0x a1I) (a0w a1I) (a0b a1I) .none kV33 dc33 pm33 an33 cd33 ct33), sl33⟩) (c33 : PySem.W.codeIn K cd33 "_law_common" = true) (k33 : PySem.W.keepIn K (.ref f33) = true)
  (a34 : PySem.W.nsIn K mainGlobals "_law_table" = some (some (.ref f34))) (l34 : K.lookup f34 = some ⟨oc34, od34, .func (PySem.W.fnOf "_law_table" "_law_table" (a0x a0X) (a0w a0X) (a0b a0X) .none kV34 dc34 pm34 an34 cd34 ct34), sl34⟩) (c34 : PySem.W.codeIn K cd34 "_law_table" = true) (k34 : PySem.W.keepIn K (.ref f34) = true)
  (a35 : PySem.W.nsIn K mainGlobals "law" = some (some (.ref f35))) (l35 : K.lookup f35 = some ⟨oc35, od35, .func (PySem.W.fnOf "law" "law" (a0x a7H) (a0w a7H) (a0b a7H) .none kV35 dc35 pm35 an35 cd35 ct35), sl35⟩) (c35 : PySem.W.codeIn K cd35 "law" = true) (k35 : PySem.W.keepIn K (.ref f35) = true)
  (z_abs : PySem.W.nsIn K mainGlobals "abs" = some none)
  (z_all : PySem.W.nsIn K mainGlobals "all" = some none)
  (z_enumerate : PySem.W.nsIn K mainGlobals "enumerate" = some none)
  (z_int : PySem.W.nsIn K mainGlobals "int" = some none)
  (z_len : PySem.W.nsIn K mainGlobals "len" = some none)
  (z_list : PySem.W.nsIn K mainGlobals "list" = some none)
  (z_range : PySem.W.nsIn K mainGlobals "range" = some none)
  (z_sorted : PySem.W.nsIn K mainGlobals "sorted" = some none)
  (z_tuple : PySem.W.nsIn K mainGlobals "tuple" = some none)
  (z_zip : PySem.W.nsIn K mainGlobals "zip" = some none)
  {tk_MOST_COLOURS : Tok} (g_MOST_COLOURS : PySem.W.nsIn K mainGlobals "MOST_COLOURS" = some (some (.int 7 tk_MOST_COLOURS)))
  {tk_MOST_LETTERS : Tok} (g_MOST_LETTERS : PySem.W.nsIn K mainGlobals "MOST_LETTERS" = some (some (.int 16 tk_MOST_LETTERS)))
  {tk_MOST_PRIME : Tok} (g_MOST_PRIME : PySem.W.nsIn K mainGlobals "MOST_PRIME" = some (some (.int 97 tk_MOST_PRIME)))
  {tk_MOST_ROWS : Tok} (g_MOST_ROWS : PySem.W.nsIn K mainGlobals "MOST_ROWS" = some (some (.int 2500 tk_MOST_ROWS)))
  {tk_MOST_STRANDS : Tok} (g_MOST_STRANDS : PySem.W.nsIn K mainGlobals "MOST_STRANDS" = some (some (.int 6 tk_MOST_STRANDS)))
  : ∃ fd : FuncData, (∀ (s : Shared) (v : Value), BindsTo s fd ⟨[v], []⟩ [("script", v)]) ∧ ∀ base : Heap, K.In base → base.Ns mainGlobals mg → FnOk l.prog w K mg base CX0 8 fa fd ["script"] (dSp K a7b) := by
 have e := hfa.symm.trans (PySem.W.mg_of X G a35)
 cases e
 have Z : Zs mg := ⟨PySem.W.mg_none_of X G z_abs, PySem.W.mg_none_of X G z_all, PySem.W.mg_none_of X G z_enumerate, PySem.W.mg_none_of X G z_int, PySem.W.mg_none_of X G z_len, PySem.W.mg_none_of X G z_list, PySem.W.mg_none_of X G z_range, PySem.W.mg_none_of X G z_sorted, PySem.W.mg_none_of X G z_tuple, PySem.W.mg_none_of X G z_zip, ⟨tk_MOST_COLOURS, PySem.W.mg_of X G g_MOST_COLOURS⟩, ⟨tk_MOST_LETTERS, PySem.W.mg_of X G g_MOST_LETTERS⟩, ⟨tk_MOST_PRIME, PySem.W.mg_of X G g_MOST_PRIME⟩, ⟨tk_MOST_ROWS, PySem.W.mg_of X G g_MOST_ROWS⟩, ⟨tk_MOST_STRANDS, PySem.W.mg_of X G g_MOST_STRANDS⟩⟩
 have F1 := a0N (st := a2o) l1 c1 k1
 have b1 := F1.binds (ps := ["strands", "letter"]) fun _ _ _ _ _ _ us hl => a3W (P := fun us => bindArgs _ ⟨us, []⟩ = pure (List.zip _ us)) hl (fun _ _ => rfl)
 have F2 := a0N (st := a3c) l2 c2 k2
 have b2 := F2.binds (ps := ["strands", "word", "most"]) fun _ _ _ _ _ _ us hl => b2W (P := fun us => bindArgs _ ⟨us, []⟩ = pure (List.zip _ us)) hl (fun _ _ _ => rfl)
 have F3 := a0N (st := a2Z) l3 c3 k3
 have b3 := F3.binds (ps := ["plait"]) fun _ _ _ _ _ _ us hl => a6q (P := fun us => bindArgs _ ⟨us, []⟩ = pure (List.zip _ us)) hl (fun _ => rfl)
 have F4 := a0N (st := a4j) l4 c4 k4
 have b4 := F4.binds (ps := ["plait"]) fun _ _ _ _ _ _ us hl => a6q (P := fun us => bindArgs _ ⟨us, []⟩ = pure (List.zip _ us)) hl (fun _ => rfl)
 have F5 := a0N (st := a2p) l5 c5 k5
 have b5 := F5.binds (ps := ["table"]) fun _ _ _ _ _ _ us hl => a6q (P := fun us => bindArgs _ ⟨us, []⟩ = pure (List.zip _ us)) hl (fun _ => rfl)
 have F6 := a0N (st := a0P) l6 c6 k6
 have b6 := F6.binds (ps := ["table", "c"]) fun _ _ _ _ _ _ us hl => a3W (P := fun us => bindArgs _ ⟨us, []⟩ = pure (List.zip _ us)) hl (fun _ _ => rfl)
 have F7 := a0N (st := a1U) l7 c7 k7
 have b7 := F7.binds (ps := ["table"]) fun _ _ _ _ _ _ us hl => a6q (P := fun us => bindArgs _ ⟨us, []⟩ = pure (List.zip _ us)) hl (fun _ => rfl)
 have F8 := a0N (st := a1s) l8 c8 k8
 have b8 := F8.binds (ps := ["table"]) fun _ _ _ _ _ _ us hl => a6q (P := fun us => bindArgs _ ⟨us, []⟩ = pure (List.zip _ us)) hl (fun _ => rfl)
 have F9 := a0N (st := a4i) l9 c9 k9
 have b9 := F9.binds (ps := ["table"]) fun _ _ _ _ _ _ us hl => a6q (P := fun us => bindArgs _ ⟨us, []⟩ = pure (List.zip _ us)) hl (fun _ => rfl)
 have F10 := a0N (st := a2Y) l10 c10 k10
 have b10 := F10.binds (ps := ["table", "colour_by", "word", "colours"]) fun _ _ _ _ _ _ us hl => b4E (P := fun us => bindArgs _ ⟨us, []⟩ = pure (List.zip _ us)) hl (fun _ _ _ _ => rfl)
 have F11 := a0N (st := a2q) l11 c11 k11
 have b11 := F11.binds (ps := ["many", "places"]) fun _ _ _ _ _ _ us hl => a3W (P := fun us => bindArgs _ ⟨us, []⟩ = pure (List.zip _ us)) hl (fun _ _ => rfl)
 have F12 := a0N (st := a1y) l12 c12 k12
 have b12 := F12.binds (ps := ["table", "plait"]) fun _ _ _ _ _ _ us hl => a3W (P := fun us => bindArgs _ ⟨us, []⟩ = pure (List.zip _ us)) hl (fun _ _ => rfl)
 have F13 := a0N (st := a1b) l13 c13 k13
 have b13 := F13.binds (ps := ["number"]) fun _ _ _ _ _ _ us hl => a6q (P := fun us => bindArgs _ ⟨us, []⟩ = pure (List.zip _ us)) hl (fun _ => rfl)
 have F14 := a0N (st := a1x) l14 c14 k14
 have b14 := F14.binds (ps := ["row", "other"]) fun _ _ _ _ _ _ us hl => a3W (P := fun us => bindArgs _ ⟨us, []⟩ = pure (List.zip _ us)) hl (fun _ _ => rfl)
 have F15 := a0N (st := a0L) l15 c15 k15
 have b15 := F15.binds (ps := ["plait"]) fun _ _ _ _ _ _ us hl => a6q (P := fun us => bindArgs _ ⟨us, []⟩ = pure (List.zip _ us)) hl (fun _ => rfl)
 have F16 := a0N (st := a3d) l16 c16 k16
 have b16 := F16.binds (ps := ["row", "first", "column", "prime"]) fun _ _ _ _ _ _ us hl => b4E (P := fun us => bindArgs _ ⟨us, []⟩ = pure (List.zip _ us)) hl (fun _ _ _ _ => rfl)
 have F17 := a0N (st := a2y) l17 c17 k17
 have b17 := F17.binds (ps := ["rows", "prime"]) fun _ _ _ _ _ _ us hl => a3W (P := fun us => bindArgs _ ⟨us, []⟩ = pure (List.zip _ us)) hl (fun _ _ => rfl)
 have F18 := a0N (st := a1t) l18 c18 k18
 have b18 := F18.binds (ps := ["prime", "plait"]) fun _ _ _ _ _ _ us hl => a3W (P := fun us => bindArgs _ ⟨us, []⟩ = pure (List.zip _ us)) hl (fun _ _ => rfl)
 have F19 := a0N (st := a1W) l19 c19 k19
 have b19 := F19.binds (ps := ["script", "k"]) fun _ _ _ _ _ _ us hl => a3W (P := fun us => bindArgs _ ⟨us, []⟩ = pure (List.zip _ us)) hl (fun _ _ => rfl)
 have F20 := a0N (st := a2r) l20 c20 k20
 have b20 := F20.binds (ps := ["state", "many"]) fun _ _ _ _ _ _ us hl => a3W (P := fun us => bindArgs _ ⟨us, []⟩ = pure (List.zip _ us)) hl (fun _ _ => rfl)
 have F21 := a0N (st := a1H) l21 c21 k21
 have b21 := F21.binds (ps := ["state", "strands"]) fun _ _ _ _ _ _ us hl => a3W (P := fun us => bindArgs _ ⟨us, []⟩ = pure (List.zip _ us)) hl (fun _ _ => rfl)
 have F22 := a0N (st := a1X) l22 c22 k22
 have b22 := F22.binds (ps := ["state", "most", "longest"]) fun _ _ _ _ _ _ us hl => b2W (P := fun us => bindArgs _ ⟨us, []⟩ = pure (List.zip _ us)) hl (fun _ _ _ => rfl)
 have F23 := a0N (st := a2s) l23 c23 k23
 have b23 := F23.binds (ps := ["letter"]) fun _ _ _ _ _ _ us hl => a6q (P := fun us => bindArgs _ ⟨us, []⟩ = pure (List.zip _ us)) hl (fun _ => rfl)
 have F24 := a0N (st := a1V) l24 c24 k24
 have b24 := F24.binds (ps := ["part"]) fun _ _ _ _ _ _ us hl => a6q (P := fun us => bindArgs _ ⟨us, []⟩ = pure (List.zip _ us)) hl (fun _ => rfl)
 have F25 := a0N (st := a1Z) l25 c25 k25
 have b25 := F25.binds (ps := ["strands", "word", "step"]) fun _ _ _ _ _ _ us hl => b2W (P := fun us => bindArgs _ ⟨us, []⟩ = pure (List.zip _ us)) hl (fun _ _ _ => rfl)
 have F26 := a0N (st := a2t) l26 c26 k26
 have b26 := F26.binds (ps := ["strands", "word"]) fun _ _ _ _ _ _ us hl => a3W (P := fun us => bindArgs _ ⟨us, []⟩ = pure (List.zip _ us)) hl (fun _ _ => rfl)
 have F27 := a0N (st := a1d) l27 c27 k27
 have b27 := F27.binds (ps := ["state", "strands", "word", "longest"]) fun _ _ _ _ _ _ us hl => b4E (P := fun us => bindArgs _ ⟨us, []⟩ = pure (List.zip _ us)) hl (fun _ _ _ _ => rfl)
 have F28 := a0N (st := a1z) l28 c28 k28
 have b28 := F28.binds (ps := ["plait", "move"]) fun _ _ _ _ _ _ us hl => a3W (P := fun us => bindArgs _ ⟨us, []⟩ = pure (List.zip _ us)) hl (fun _ _ => rfl)
 have F29 := a0N (st := a1c) l29 c29 k29
 have b29 := F29.binds (ps := ["plait", "move"]) fun _ _ _ _ _ _ us hl => a3W (P := fun us => bindArgs _ ⟨us, []⟩ = pure (List.zip _ us)) hl (fun _ _ => rfl)
 have F30 := a0N (st := a1e) l30 c30 k30
 have b30 := F30.binds (ps := ["state", "plait", "longest"]) fun _ _ _ _ _ _ us hl => b2W (P := fun us => bindArgs _ ⟨us, []⟩ = pure (List.zip _ us)) hl (fun _ _ _ => rfl)
 have F31 := a0N (st := a1Y) l31 c31 k31
 have b31 := F31.binds (ps := ["state", "plait", "many", "most", "longest"]) fun _ _ _ _ _ _ us hl => b9A (P := fun us => bindArgs _ ⟨us, []⟩ = pure (List.zip _ us)) hl (fun _ _ _ _ _ => rfl)
 have F32 := a0N (st := a1i) l32 c32 k32
 have b32 := F32.binds (ps := ["table", "state"]) fun _ _ _ _ _ _ us hl => a3W (P := fun us => bindArgs _ ⟨us, []⟩ = pure (List.zip _ us)) hl (fun _ _ => rfl)
 have F33 := a0N (st := a1I) l33 c33 k33
 have b33 := F33.binds (ps := ["one", "other"]) fun _ _ _ _ _ _ us hl => a3W (P := fun us => bindArgs _ ⟨us, []⟩ = pure (List.zip _ us)) hl (fun _ _ => rfl)
 have F34 := a0N (st := a0X) l34 c34 k34
 have b34 := F34.binds (ps := ["state", "most"]) fun _ _ _ _ _ _ us hl => a3W (P := fun us => bindArgs _ ⟨us, []⟩ = pure (List.zip _ us)) hl (fun _ _ => rfl)
 have F35 := a0N (st := a7H) l35 c35 k35
 refine ⟨PySem.W.fnOf "law" "law" (a0x a7H) (a0w a7H) (a0b a7H) .none kV35 dc35 pm35 an35 cd35 ct35, fun s v => .of_eq rfl, fun base _ _ => ?_⟩
 have D1 := a8L (P := l.prog) (w := w) (base := base) (n := 0) F1 (PySem.W.mg_of X G a1) b1 Z 
 have D2 := b1y (P := l.prog) (w := w) (base := base) (n := 1) F2 (PySem.W.mg_of X G a2) b2 Z (D1.mono (by decide))
 have D3 := a9S (P := l.prog) (w := w) (base := base) (n := 2) F3 (PySem.W.mg_of X G a3) b3 Z (D2.mono (by decide))
 have D4 := b2J (P := l.prog) (w := w) (base := base) (n := 3) F4 (PySem.W.mg_of X G a4) b4 Z (D3.mono (by decide))
 have D5 := a9T (P := l.prog) (w := w) (base := base) (n := 0) F5 (PySem.W.mg_of X G a5) b5 Z 
 have D6 := a4G (P := l.prog) (w := w) (base := base) (n := 0) F6 (PySem.W.mg_of X G a6) b6 Z 
 have D7 := a9R (P := l.prog) (w := w) (base := base) (n := 1) F7 (PySem.W.mg_of X G a7) b7 Z (D5.mono (by decide)) (D6.mono (by decide))
 have D8 := a6i (P := l.prog) (w := w) (base := base) (n := 2) F8 (PySem.W.mg_of X G a8) b8 Z (D7.mono (by decide))
 have D9 := b2I (P := l.prog) (w := w) (base := base) (n := 0) F9 (PySem.W.mg_of X G a9) b9 Z 
 have D10 := a9Q (P := l.prog) (w := w) (base := base) (n := 0) F10 (PySem.W.mg_of X G a10) b10 Z 
 have D11 := a9U (P := l.prog) (w := w) (base := base) (n := 0) F11 (PySem.W.mg_of X G a11) b11 Z 
 have D12 := a7V (P := l.prog) (w := w) (base := base) (n := 4) F12 (PySem.W.mg_of X G a12) b12 Z (D4.mono (by decide)) (D8.mono (by decide)) (D9.mono (by decide)) (D11.mono (by decide)) (D10.mono (by decide))
 have D13 := a6j (P := l.prog) (w := w) (base := base) (n := 0) F13 (PySem.W.mg_of X G a13) b13 Z 
 have D14 := a7U (P := l.prog) (w := w) (base := base) (n := 0) F14 (PySem.W.mg_of X G a14) b14 Z 
 have D15 := a5K (P := l.prog) (w := w) (base := base) (n := 1) F15 (PySem.W.mg_of X G a15) b15 Z (D14.mono (by decide))
 have D16 := b1z (P := l.prog) (w := w) (base := base) (n := 0) F16 (PySem.W.mg_of X G a16) b16 Z 
 have D17 := b1x (P := l.prog) (w := w) (base := base) (n := 1) F17 (PySem.W.mg_of X G a17) b17 Z (D16.mono (by decide))
 have D18 := a6k (P := l.prog) (w := w) (base := base) (n := 4) F18 (PySem.W.mg_of X G a18) b18 Z (D4.mono (by decide)) (D13.mono (by decide)) (D15.mono (by decide)) (D17.mono (by decide))
 have D19 := a7Y (P := l.prog) (w := w) (base := base) (n := 0) F19 (PySem.W.mg_of X G a19) b19 Z 
 have D20 := a8M (P := l.prog) (w := w) (base := base) (n := 0) F20 (PySem.W.mg_of X G a20) b20 Z 
 have D21 := a6S (P := l.prog) (w := w) (base := base) (n := 1) F21 (PySem.W.mg_of X G a21) b21 Z (D20.mono (by decide))
 have D22 := a7Z (P := l.prog) (w := w) (base := base) (n := 2) F22 (PySem.W.mg_of X G a22) b22 Z (D20.mono (by decide)) (D21.mono (by decide))
 have D23 := a8N (P := l.prog) (w := w) (base := base) (n := 0) F23 (PySem.W.mg_of X G a23) b23 Z 
 have D24 := a7W (P := l.prog) (w := w) (base := base) (n := 1) F24 (PySem.W.mg_of X G a24) b24 Z (D23.mono (by decide))
 have D25 := a8d (P := l.prog) (w := w) (base := base) (n := 2) F25 (PySem.W.mg_of X G a25) b25 Z (D24.mono (by decide))
 have D26 := a9V (P := l.prog) (w := w) (base := base) (n := 3) F26 (PySem.W.mg_of X G a26) b26 Z (D25.mono (by decide))
 have D27 := a5L (P := l.prog) (w := w) (base := base) (n := 4) F27 (PySem.W.mg_of X G a27) b27 Z (D26.mono (by decide)) (D20.mono (by decide)) (D21.mono (by decide))
 have D28 := a8c (P := l.prog) (w := w) (base := base) (n := 3) F28 (PySem.W.mg_of X G a28) b28 Z (D23.mono (by decide)) (D25.mono (by decide))
 have D29 := a6l (P := l.prog) (w := w) (base := base) (n := 3) F29 (PySem.W.mg_of X G a29) b29 Z (D25.mono (by decide))
 have D30 := a5M (P := l.prog) (w := w) (base := base) (n := 5) F30 (PySem.W.mg_of X G a30) b30 Z (D20.mono (by decide)) (D27.mono (by decide))
 have D31 := a8b (P := l.prog) (w := w) (base := base) (n := 6) F31 (PySem.W.mg_of X G a31) b31 Z (D30.mono (by decide)) (D29.mono (by decide)) (D28.mono (by decide))
 have D32 := a8a (P := l.prog) (w := w) (base := base) (n := 1) F32 (PySem.W.mg_of X G a32) b32 Z (D20.mono (by decide))
 have D33 := a6T (P := l.prog) (w := w) (base := base) (n := 0) F33 (PySem.W.mg_of X G a33) b33 Z 
 have D34 := a7X (P := l.prog) (w := w) (base := base) (n := 2) F34 (PySem.W.mg_of X G a34) b34 Z (D20.mono (by decide)) (D32.mono (by decide)) (D33.mono (by decide))
 exact b8o (n := 7) F35 Z (D19.mono (by decide)) (D22.mono (by decide)) (D31.mono (by decide)) (D20.mono (by decide)) (D34.mono (by decide)) (D12.mono (by decide)) (D18.mono (by decide))
end L2
namespace PySem.W.Fast
theorem tw17486570427368296587:True:=⟨⟩
theorem tw9785502865144352335:True:=⟨⟩
theorem tw1674719178518805974:True:=⟨⟩
theorem tw14564276093715419145:True:=⟨⟩
theorem tw8506809957438164714:True:=⟨⟩
theorem tw11459334938510151532:True:=⟨⟩
theorem tw6136441493751030161:True:=⟨⟩
theorem tw10089324500701795983:True:=⟨⟩
theorem tw14268001144374586427:True:=⟨⟩
theorem tw7162916417306685675:True:=⟨⟩
theorem tw15392092631112196310:True:=⟨⟩
theorem tw5518360499894793020:True:=⟨⟩
theorem tw6945706401396721048:True:=⟨⟩
theorem tw6720725495830245830:True:=⟨⟩
theorem tw4732206118879225746:True:=⟨⟩
theorem tw16467395489758000982:True:=⟨⟩
theorem tw5319503284807816183:True:=⟨⟩
theorem tw9424465154523528581:True:=⟨⟩
theorem tw9002978218355788314:True:=⟨⟩
theorem tw7162821214972924402:True:=⟨⟩
theorem tw1545942036920845148:True:=⟨⟩
theorem tw4018476970450283838:True:=⟨⟩
theorem tw14726384875312149568:True:=⟨⟩
theorem tw7845889825176100611:True:=⟨⟩
theorem tw4256835560116675962:True:=⟨⟩
theorem tw4998615191857394024:True:=⟨⟩
theorem tw17349804049994328156:True:=⟨⟩
theorem tw649609664021810782:True:=⟨⟩
theorem tw881952821945561681:True:=⟨⟩
theorem tw18248989528040270956:True:=⟨⟩
theorem tw1442321777712059078:True:=⟨⟩
theorem tw12498387417435284078:True:=⟨⟩
theorem tw6599247543452432045:True:=⟨⟩
theorem tw18160468517540991979:True:=⟨⟩
theorem tw10822597258623409198:True:=⟨⟩
theorem tw14402323524070777622:True:=⟨⟩
theorem tw13979200403327254195:True:=⟨⟩
theorem tw7659248252939519515:True:=⟨⟩
theorem tw12083027475174878760:True:=⟨⟩
theorem tw2985798052581734155:True:=⟨⟩
theorem tw3417239105777618154:True:=⟨⟩
theorem tw5720772421479507894:True:=⟨⟩
theorem tw11808649323484078256:True:=⟨⟩
theorem tw1334949376299530445:True:=⟨⟩
theorem tw425580163129071044:True:=⟨⟩
theorem tw3592482509321381227:True:=⟨⟩
theorem tw3642457767783193833:True:=⟨⟩
theorem tw2734987855877174681:True:=⟨⟩
theorem tw6105810750193294469:True:=⟨⟩
theorem tw6102735414499825747:True:=⟨⟩
theorem tw10938856028219192281:True:=⟨⟩
theorem tw7119460151338628070:True:=⟨⟩
theorem tw15790803811846668903:True:=⟨⟩
theorem tw8613942647655674512:True:=⟨⟩
theorem tw16308028244596810657:True:=⟨⟩
theorem tw13374024189218764489:True:=⟨⟩
theorem tw11506598176153900403:True:=⟨⟩
theorem tw5609503047200179204:True:=⟨⟩
theorem tw2655182157089120280:True:=⟨⟩
theorem tw9536771511535518383:True:=⟨⟩
theorem tw14411613047010756318:True:=⟨⟩
theorem tw7866817615714294850:True:=⟨⟩
theorem tw11564257753540556034:True:=⟨⟩
theorem tw8416018744839312496:True:=⟨⟩
theorem tw4826514587671788309:True:=⟨⟩
theorem tw17912047675864419990:True:=⟨⟩
theorem tw9648857612645879172:True:=⟨⟩
theorem tw17040058597123954908:True:=⟨⟩
theorem tw9025510740268686491:True:=⟨⟩
theorem tw1933449054823164593:True:=⟨⟩
theorem tw8957467274976676120:True:=⟨⟩
theorem tw5035396724210178720:True:=⟨⟩
theorem tw12876587229653042656:True:=⟨⟩
theorem tw5941393855411400249:True:=⟨⟩
theorem tw957426222837086591:True:=⟨⟩
theorem tw11707525289996525190:True:=⟨⟩
theorem tw10165801348296596305:True:=⟨⟩
theorem tw9013883774920463594:True:=⟨⟩
theorem tw10112513711053104257:True:=⟨⟩
theorem tw7041983832710617818:True:=⟨⟩
theorem tw9033365800682887025:True:=⟨⟩
theorem tw2841144900890834327:True:=⟨⟩
theorem tw2618295474477467577:True:=⟨⟩
theorem tw15118990886793310529:True:=⟨⟩
theorem tw8537552920094851986:True:=⟨⟩
theorem tw171464938264858066:True:=⟨⟩
theorem tw10631593051020219401:True:=⟨⟩
theorem tw3356438477495577167:True:=⟨⟩
theorem tw15789817966815417690:True:=⟨⟩
theorem tw16151810008254997653:True:=⟨⟩
theorem tw11021111699999916088:True:=⟨⟩
theorem tw10622218502961830940:True:=⟨⟩
theorem tw5092801907366437730:True:=⟨⟩
theorem tw5879488970070165576:True:=⟨⟩
theorem tw16900530794757888183:True:=⟨⟩
theorem tw9553249687249588961:True:=⟨⟩
theorem tw6049651485395422433:True:=⟨⟩
theorem tw9644120198368353082:True:=⟨⟩
theorem tw13700326374886380385:True:=⟨⟩
theorem tw1589242418475329467:True:=⟨⟩
theorem tw13709804380681963518:True:=⟨⟩
theorem tw11002171018210287631:True:=⟨⟩
theorem tw10911753773162813846:True:=⟨⟩
theorem tw6659444485514539556:True:=⟨⟩
theorem tw8703188378155610492:True:=⟨⟩
theorem tw5867580912332999197:True:=⟨⟩
theorem tw7330889778202737381:True:=⟨⟩
theorem tw17151149848261214472:True:=⟨⟩
theorem tw7397025934815511773:True:=⟨⟩
theorem tw9956469461303190201:True:=⟨⟩
theorem tw786871983219961225:True:=⟨⟩
theorem tw17399934554396189747:True:=⟨⟩
theorem tw14397682587204856086:True:=⟨⟩
theorem tw17618516219283052394:True:=⟨⟩
theorem tw9559256258882020239:True:=⟨⟩
theorem tw2621700904110457981:True:=⟨⟩
theorem tw16126673854411456312:True:=⟨⟩
theorem tw2444892139575492062:True:=⟨⟩
theorem tw9521231681901578432:True:=⟨⟩
theorem tw15303333301024465039:True:=⟨⟩
theorem tw14930810714224244451:True:=⟨⟩
theorem tw10238507236828033650:True:=⟨⟩
theorem tw10121029724770305476:True:=⟨⟩
theorem tw601477161286904009:True:=⟨⟩
theorem tw12360746151053271672:True:=⟨⟩
theorem tw11974098842464160221:True:=⟨⟩
theorem tw16728454306275945537:True:=⟨⟩
theorem tw15509370717630423114:True:=⟨⟩
theorem tw3641564341599608371:True:=⟨⟩
theorem tw7195021744903073660:True:=⟨⟩
theorem tw5557799671540012488:True:=⟨⟩
theorem tw6016637532898151144:True:=⟨⟩
theorem tw15276171270115127952:True:=⟨⟩
theorem tw10317719872017437241:True:=⟨⟩
theorem tw13172373598665786439:True:=⟨⟩
theorem tw15606247545880592692:True:=⟨⟩
theorem tw4887962980235107638:True:=⟨⟩
theorem tw1658976643112579302:True:=⟨⟩
theorem tw908434194241829865:True:=⟨⟩
theorem tw16087608798226853507:True:=⟨⟩
theorem tw9122919749036137195:True:=⟨⟩
theorem tw11228496066917327921:True:=⟨⟩
theorem tw8735002614470957415:True:=⟨⟩
theorem tw8303723246082540225:True:=⟨⟩
theorem tw11142385696625873186:True:=⟨⟩
theorem tw16663250937048585888:True:=⟨⟩
theorem tw5033167207855965816:True:=⟨⟩
theorem tw9112627065874010309:True:=⟨⟩
theorem tw17033043797171225674:True:=⟨⟩
theorem tw6284170696317311436:True:=⟨⟩
theorem tw12036494413211835157:True:=⟨⟩
theorem tw5420395248999457435:True:=⟨⟩
theorem tw11019150624197393864:True:=⟨⟩
theorem tw6423168217567310958:True:=⟨⟩
theorem tw10546718031209194070:True:=⟨⟩
theorem tw81330884474214683:True:=⟨⟩
theorem tw10470578734667927848:True:=⟨⟩
theorem tw5978018147513949:True:=⟨⟩
theorem tw5786769673514998555:True:=⟨⟩
theorem tw7352467992306659701:True:=⟨⟩
theorem tw3156745488906821660:True:=⟨⟩
theorem tw11834441349191488540:True:=⟨⟩
theorem tw7379739147407548045:True:=⟨⟩
theorem tw11268564629376877232:True:=⟨⟩
theorem tw199221242556926190:True:=⟨⟩
theorem tw11004265674134292549:True:=⟨⟩
theorem tw17879874255926936193:True:=⟨⟩
theorem tw18060457870517145843:True:=⟨⟩
theorem tw16084987027696369212:True:=⟨⟩
theorem tw10553178073196880474:True:=⟨⟩
theorem tw5708795374125551144:True:=⟨⟩
theorem tw1254407908616658268:True:=⟨⟩
theorem tw8411272705532642675:True:=⟨⟩
theorem tw6731112155979399066:True:=⟨⟩
theorem tw4946577582388070865:True:=⟨⟩
theorem tw2440237613717280224:True:=⟨⟩
theorem tw10894715674561018557:True:=⟨⟩
theorem tw15045199125291647031:True:=⟨⟩
theorem tw9140538285406616259:True:=⟨⟩
theorem tw5634319050186897786:True:=⟨⟩
theorem tw8624804175873294477:True:=⟨⟩
theorem tw213046894644431305:True:=⟨⟩
theorem tw11965797000648042937:True:=⟨⟩
theorem tw14491106802214597456:True:=⟨⟩
theorem tw4939316902351579347:True:=⟨⟩
theorem tw9524353796763059760:True:=⟨⟩
theorem tw12084177344298741041:True:=⟨⟩
theorem tw5543913624599781901:True:=⟨⟩
theorem tw14975470126446809962:True:=⟨⟩
theorem tw2503958453594388022:True:=⟨⟩
theorem tw8971564860075417448:True:=⟨⟩
theorem tw5488014021477931246:True:=⟨⟩
theorem tw11886161697384697997:True:=⟨⟩
theorem tw8457973406813056342:True:=⟨⟩
theorem tw7206130440569065686:True:=⟨⟩
theorem tw15480574139691297315:True:=⟨⟩
theorem tw10207529662402775212:True:=⟨⟩
theorem tw6043798110877630394:True:=⟨⟩
theorem tw6045973969709261684:True:=⟨⟩
theorem tw12741101256171181928:True:=⟨⟩
theorem tw9009548534035924352:True:=⟨⟩
theorem tw16049359500700713563:True:=⟨⟩
theorem tw6331408631119837051:True:=⟨⟩
theorem tw16891845227556223805:True:=⟨⟩
theorem tw15219349675733395048:True:=⟨⟩
theorem tw5444009198083009242:True:=⟨⟩
theorem tw6118602153792561063:True:=⟨⟩
theorem tw3166770785563469058:True:=⟨⟩
theorem tw11194420893924120160:True:=⟨⟩
theorem tw11366177145706658073:True:=⟨⟩
theorem tw14034236978662567062:True:=⟨⟩
theorem tw619317733380642254:True:=⟨⟩
theorem tw8468095526186633513:True:=⟨⟩
theorem tw7473745719889818861:True:=⟨⟩
theorem tw7278553213648605593:True:=⟨⟩
theorem tw4852589803667587885:True:=⟨⟩
theorem tw913217956500206664:True:=⟨⟩
theorem tw15502280789335652470:True:=⟨⟩
theorem tw7125425405175969929:True:=⟨⟩
theorem tw18205050321495819511:True:=⟨⟩
theorem tw8497790498083849357:True:=⟨⟩
theorem tw14478720975163012846:True:=⟨⟩
theorem tw16566685998998048825:True:=⟨⟩
theorem tw8331855755440422768:True:=⟨⟩
theorem tw15125928036272776571:True:=⟨⟩
theorem tw12101269351615147853:True:=⟨⟩
theorem tw14904624116186613941:True:=⟨⟩
theorem tw12510757234449283455:True:=⟨⟩
theorem tw10545070054304955095:True:=⟨⟩
theorem tw11581580412963981120:True:=⟨⟩
theorem tw5870209363704822087:True:=⟨⟩
theorem tw18071506086074523746:True:=⟨⟩
theorem tw8483551194890701767:True:=⟨⟩
theorem tw5947789638383912789:True:=⟨⟩
theorem tw920777112951751590:True:=⟨⟩
theorem tw12092498370227040461:True:=⟨⟩
theorem tw16184617912126565078:True:=⟨⟩
theorem tw8786475196881071200:True:=⟨⟩
theorem tw11168418158415874920:True:=⟨⟩
theorem tw13174116838391942950:True:=⟨⟩
theorem tw13116607607671654457:True:=⟨⟩
theorem tw11724307312714432605:True:=⟨⟩
theorem tw3199386618832557387:True:=⟨⟩
theorem tw3430283923849700460:True:=⟨⟩
theorem tw10382963181052747179:True:=⟨⟩
theorem tw7381568697002003345:True:=⟨⟩
theorem tw9598898103768706163:True:=⟨⟩
theorem tw2966950176138664614:True:=⟨⟩
theorem tw8643906412060869505:True:=⟨⟩
theorem tw2716455252219321786:True:=⟨⟩
theorem tw8714117307073772889:True:=⟨⟩
theorem tw5508047936827139359:True:=⟨⟩
theorem tw291339553632015694:True:=⟨⟩
theorem tw16731651475192767017:True:=⟨⟩
theorem tw17707017995391014651:True:=⟨⟩
theorem tw489155582734753479:True:=⟨⟩
theorem tw2028673905417342751:True:=⟨⟩
theorem tw3041792259973070923:True:=⟨⟩
theorem tw6243022180946674146:True:=⟨⟩
theorem tw7729016920036317570:True:=⟨⟩
theorem tw785151115758895813:True:=⟨⟩
theorem tw12570214904577171518:True:=⟨⟩
theorem tw3126170587081929204:True:=⟨⟩
theorem tw12990174732397814940:True:=⟨⟩
theorem tw3271996831201836021:True:=⟨⟩
theorem tw3750264110164496463:True:=⟨⟩
theorem tw14461062113435740292:True:=⟨⟩
theorem tw810179160643513182:True:=⟨⟩
theorem tw15914035798886415379:True:=⟨⟩
theorem tw11950906679786838143:True:=⟨⟩
theorem tw3648599637737460157:True:=⟨⟩
theorem tw16406733741296459113:True:=⟨⟩
theorem tw9840852509938909128:True:=⟨⟩
theorem tw16680670280569225820:True:=⟨⟩
theorem tw2756905117541632655:True:=⟨⟩
theorem tw12236089028675795291:True:=⟨⟩
theorem tw7800874292163985540:True:=⟨⟩
theorem tw12423608815109286206:True:=⟨⟩
theorem tw2693554466765442135:True:=⟨⟩
theorem tw2442942497424986134:True:=⟨⟩
theorem tw1612814985789116169:True:=⟨⟩
theorem tw5357502941259226790:True:=⟨⟩
theorem tw4405422745726774829:True:=⟨⟩
theorem tw10289165467046034943:True:=⟨⟩
theorem tw4898140382872592080:True:=⟨⟩
theorem tw1440666203595411072:True:=⟨⟩
theorem tw9384528964830978984:True:=⟨⟩
theorem tw13454965017370846098:True:=⟨⟩
theorem tw14005623637056240860:True:=⟨⟩
theorem tw7408261015156407797:True:=⟨⟩
theorem tw11716817137246879953:True:=⟨⟩
theorem tw13613722712330401852:True:=⟨⟩
theorem tw5379254771820400513:True:=⟨⟩
theorem tw8241100587137125576:True:=⟨⟩
theorem tw15142346603389046235:True:=⟨⟩
theorem tw13650180930126092955:True:=⟨⟩
theorem tw17920660503939208606:True:=⟨⟩
theorem tw6314056904052296165:True:=⟨⟩
theorem tw13963031290595930769:True:=⟨⟩
theorem tw12892949618340183514:True:=⟨⟩
theorem tw1824568751891159978:True:=⟨⟩
theorem tw12501644001248227351:True:=⟨⟩
theorem tw14518976917605398800:True:=⟨⟩
theorem tw1812702993284482378:True:=⟨⟩
theorem tw15882609301433809756:True:=⟨⟩
theorem tw12624270340598611121:True:=⟨⟩
theorem tw8510967214965569489:True:=⟨⟩
theorem tw489936032091482320:True:=⟨⟩
theorem tw2344775540490840900:True:=⟨⟩
theorem tw11505997922693296019:True:=⟨⟩
theorem tw729375908418704029:True:=⟨⟩
theorem tw14302571449804096690:True:=⟨⟩
theorem tw3473361768726432237:True:=⟨⟩
theorem tw1564476582879350749:True:=⟨⟩
theorem tw1756857520287482735:True:=⟨⟩
theorem tw12871787725097999323:True:=⟨⟩
theorem tw10539867067776740046:True:=⟨⟩
theorem tw10064249150296497846:True:=⟨⟩
theorem tw12413990008433380629:True:=⟨⟩
theorem tw6924057798235459259:True:=⟨⟩
theorem tw3000307022031458140:True:=⟨⟩
theorem tw15174467559430892489:True:=⟨⟩
theorem tw14941602954836005509:True:=⟨⟩
theorem tw15847373899248124094:True:=⟨⟩
theorem tw17932703031488928541:True:=⟨⟩
theorem tw14526144518184622850:True:=⟨⟩
theorem tw13026744209810393402:True:=⟨⟩
theorem tw14714630104698687912:True:=⟨⟩
theorem tw11254295450801774026:True:=⟨⟩
theorem tw9986564545840355528:True:=⟨⟩
end PySem.W.Fast
open PySem PySem.W PyProof.Rows
set_option maxRecDepth 100000 in
set_option maxHeartbeats 0 in
theorem PySem.Challenge.cw_loopwright_k64_whole_moves_keep_how_many_holds : PySem.Challenge.rw_loopwright_k64_whole_moves_keep_how_many.Holds := by
 w_on; o_law; k_head; (case hw => w_witness2)
 k_fill
 refine L2.b4F (l := PySem.Challenge.rw_loopwright_k64_whole_moves_keep_how_many) (k := 8) (sp := L2.a7b) rfl rfl ⟨rfl, by decide, by decide⟩ (fun w h Y => PySem.W.kIn_of Y) L2.b1H ?F
 case F =>
  intro w mg fa h KX G hmg
  refine' L2.b8P KX G hmg ?a1 ?l1 ?c1 ?k1 ?a2 ?l2 ?c2 ?k2 ?a3 ?l3 ?c3 ?k3 ?a4 ?l4 ?c4 ?k4 ?a5 ?l5 ?c5 ?k5 ?a6 ?l6 ?c6 ?k6 ?a7 ?l7 ?c7 ?k7 ?a8 ?l8 ?c8 ?k8 ?a9 ?l9 ?c9 ?k9 ?a10 ?l10 ?c10 ?k10 ?a11 ?l11 ?c11 ?k11 ?a12 ?l12 ?c12 ?k12 ?a13 ?l13 ?c13 ?k13 ?a14 ?l14 ?c14 ?k14 ?a15 ?l15 ?c15 ?k15 ?a16 ?l16 ?c16 ?k16 ?a17 ?l17 ?c17 ?k17 ?a18 ?l18 ?c18 ?k18 ?a19 ?l19 ?c19 ?k19 ?a20 ?l20 ?c20 ?k20 ?a21 ?l21 ?c21 ?k21 ?a22 ?l22 ?c22 ?k22 ?a23 ?l23 ?c23 ?k23 ?a24 ?l24 ?c24 ?k24 ?a25 ?l25 ?c25 ?k25 ?a26 ?l26 ?c26 ?k26 ?a27 ?l27 ?c27 ?k27 ?a28 ?l28 ?c28 ?k28 ?a29 ?l29 ?c29 ?k29 ?a30 ?l30 ?c30 ?k30 ?a31 ?l31 ?c31 ?k31 ?a32 ?l32 ?c32 ?k32 ?a33 ?l33 ?c33 ?k33 ?a34 ?l34 ?c34 ?k34 ?a35 ?l35 ?c35 ?k35 ?z_abs ?z_all ?z_enumerate ?z_int ?z_len ?z_list ?z_range ?z_sorted ?z_tuple ?z_zip ?g_MOST_COLOURS ?g_MOST_LETTERS ?g_MOST_PRIME ?g_MOST_ROWS ?g_MOST_STRANDS
  (case a1 => k_is)
  (case l1 => k_is)
  (case c1 => k_is)
  (case k1 => k_is)
  (case a2 => k_is)
  (case l2 => k_is)
  (case c2 => k_is)
  (case k2 => k_is)
  (case a3 => k_is)
  (case l3 => k_is)
  (case c3 => k_is)
  (case k3 => k_is)
  (case a4 => k_is)
  (case l4 => k_is)
  (case c4 => k_is)
  (case k4 => k_is)
  (case a5 => k_is)
  (case l5 => k_is)
  (case c5 => k_is)
  (case k5 => k_is)
  (case a6 => k_is)
  (case l6 => k_is)
  (case c6 => k_is)
  (case k6 => k_is)
  (case a7 => k_is)
  (case l7 => k_is)
  (case c7 => k_is)
  (case k7 => k_is)
  (case a8 => k_is)
  (case l8 => k_is)
  (case c8 => k_is)
  (case k8 => k_is)
  (case a9 => k_is)
  (case l9 => k_is)
  (case c9 => k_is)
  (case k9 => k_is)
  (case a10 => k_is)
  (case l10 => k_is)
  (case c10 => k_is)
  (case k10 => k_is)
  (case a11 => k_is)
  (case l11 => k_is)
  (case c11 => k_is)
  (case k11 => k_is)
  (case a12 => k_is)
  (case l12 => k_is)
  (case c12 => k_is)
  (case k12 => k_is)
  (case a13 => k_is)
  (case l13 => k_is)
  (case c13 => k_is)
  (case k13 => k_is)
  (case a14 => k_is)
  (case l14 => k_is)
  (case c14 => k_is)
  (case k14 => k_is)
  (case a15 => k_is)
  (case l15 => k_is)
  (case c15 => k_is)
  (case k15 => k_is)
  (case a16 => k_is)
  (case l16 => k_is)
  (case c16 => k_is)
  (case k16 => k_is)
  (case a17 => k_is)
  (case l17 => k_is)
  (case c17 => k_is)
  (case k17 => k_is)
  (case a18 => k_is)
  (case l18 => k_is)
  (case c18 => k_is)
  (case k18 => k_is)
  (case a19 => k_is)
  (case l19 => k_is)
  (case c19 => k_is)
  (case k19 => k_is)
  (case a20 => k_is)
  (case l20 => k_is)
  (case c20 => k_is)
  (case k20 => k_is)
  (case a21 => k_is)
  (case l21 => k_is)
  (case c21 => k_is)
  (case k21 => k_is)
  (case a22 => k_is)
  (case l22 => k_is)
  (case c22 => k_is)
  (case k22 => k_is)
  (case a23 => k_is)
  (case l23 => k_is)
  (case c23 => k_is)
  (case k23 => k_is)
  (case a24 => k_is)
  (case l24 => k_is)
  (case c24 => k_is)
  (case k24 => k_is)
  (case a25 => k_is)
  (case l25 => k_is)
  (case c25 => k_is)
  (case k25 => k_is)
  (case a26 => k_is)
  (case l26 => k_is)
  (case c26 => k_is)
  (case k26 => k_is)
  (case a27 => k_is)
  (case l27 => k_is)
  (case c27 => k_is)
  (case k27 => k_is)
  (case a28 => k_is)
  (case l28 => k_is)
  (case c28 => k_is)
  (case k28 => k_is)
  (case a29 => k_is)
  (case l29 => k_is)
  (case c29 => k_is)
  (case k29 => k_is)
  (case a30 => k_is)
  (case l30 => k_is)
  (case c30 => k_is)
  (case k30 => k_is)
  (case a31 => k_is)
  (case l31 => k_is)
  (case c31 => k_is)
  (case k31 => k_is)
  (case a32 => k_is)
  (case l32 => k_is)
  (case c32 => k_is)
  (case k32 => k_is)
  (case a33 => k_is)
  (case l33 => k_is)
  (case c33 => k_is)
  (case k33 => k_is)
  (case a34 => k_is)
  (case l34 => k_is)
  (case c34 => k_is)
  (case k34 => k_is)
  (case a35 => k_is)
  (case l35 => k_is)
  (case c35 => k_is)
  (case k35 => k_is)
  (case z_abs => k_is)
  (case z_all => k_is)
  (case z_enumerate => k_is)
  (case z_int => k_is)
  (case z_len => k_is)
  (case z_list => k_is)
  (case z_range => k_is)
  (case z_sorted => k_is)
  (case z_tuple => k_is)
  (case z_zip => k_is)
  (case g_MOST_COLOURS => k_is)
  (case g_MOST_LETTERS => k_is)
  (case g_MOST_PRIME => k_is)
  (case g_MOST_ROWS => k_is)
  (case g_MOST_STRANDS => k_is)
