import PyProof.Rows.All
import Wide.All
import OpenK.AllK
import Wide.FinOn
import Lean
import PyProof.EqAt
import PyProof.EqKinds
import PyProof.TupleCall
import PySem.Challenge.RW_loopwright_k76_whole_settled_sums
set_option Elab.async false
set_option linter.all false
set_option maxRecDepth 100000
namespace L2
open PySem PySem.Spec PyProof.Rows
noncomputable abbrev Key := Sum Int Str
noncomputable def a6W : Key → Value → Bool
 | .inl k, v => Value.isInt k v
 | .inr x, v => Value.isStrOf x v
noncomputable def keyH (w : World) : Key → Int
 | .inl k => hashInt k
 | .inr x => hashStr w x
theorem a0G : ∀ {k : Key} {v : Value}, a6W k v = true → (∃ i t, k = Sum.inl i ∧ v = Value.int i t) ∨ (∃ x t, k = Sum.inr x ∧ v = Value.str x t)
 | .inl i, v, h => by
   obtain ⟨t, e⟩ := Value.isInt_shape (k := i) (v := v) h
   exact .inl ⟨i, t, rfl, e⟩
 | .inr x, v, h => by
   obtain ⟨t, e⟩ := Value.isStrOf_shape (x := x) (v := v) h
   exact .inr ⟨x, t, rfl, e⟩
theorem a7P (i : Int) (t : Tok) : a6W (.inl i) (.int i t) = true := by simp [a6W, Value.isInt]
theorem a7O (x : Str) (t : Tok) : a6W (.inr x) (.str x t) = true := by simp [a6W, Value.isStrOf]
theorem b8w (a b : Int) : decide ((Sum.inl a : Key) = Sum.inl b) = (a == b) := by
 by_cases e : a = b
 ·subst e; simp
 ·have h : ¬ (Sum.inl a : Key) = Sum.inl b := fun q => e (Sum.inl.inj q)
  rw [decide_eq_false h]
  exact (beq_eq_false_iff_ne.mpr e).symm
theorem b8t (a b : Str) : decide ((Sum.inr a : Key) = Sum.inr b) = decide (a = b) := by
 by_cases e : a = b
 ·subst e; simp
 ·have h : ¬ (Sum.inr a : Key) = Sum.inr b := fun q => e (Sum.inr.inj q)
  rw [decide_eq_false h, decide_eq_false e]
theorem b8v (a : Int) (b : Str) : decide ((Sum.inl a : Key) = Sum.inr b) = false := decide_eq_false (fun q => nomatch q)
theorem b8u (a : Str) (b : Int) : decide ((Sum.inr a : Key) = Sum.inl b) = false := decide_eq_false (fun q => nomatch q)
noncomputable def a0F (prog : Program) (w : World) : PySem.KeyKind prog w Key where
 is := a6W
 hash := keyH w
 inj := fun v a b ha hb => by
  rcases a0G ha with ⟨i, t, rfl, rfl⟩ | ⟨x, t, rfl, rfl⟩
  ·rcases a0G hb with ⟨j, u, rfl, e⟩ | ⟨y, u, rfl, e⟩
   ·injection e with e1 _; rw [e1]
   ·exact nomatch e
  ·rcases a0G hb with ⟨j, u, rfl, e⟩ | ⟨y, u, rfl, e⟩
   ·exact nomatch e
   ·injection e with e1 _; rw [e1]
 byValue := fun k v h => by
  rcases a0G h with ⟨i, t, rfl, rfl⟩ | ⟨x, t, rfl, rfl⟩ <;> rfl
 pyHash := fun hv h => by
  rcases a0G hv with ⟨i, t, rfl, rfl⟩ | ⟨x, t, rfl, rfl⟩
  ·exact wpAny_pyHash_int h
  ·exact wpAny_pyHash_str h
 eqBool := fun hu hv h => by
  rcases a0G hu with ⟨i, t, rfl, rfl⟩ | ⟨x, t, rfl, rfl⟩
  ·rcases a0G hv with ⟨j, u, rfl, rfl⟩ | ⟨y, u, rfl, rfl⟩
   ·rw [b8w] at h; exact wpAny_eqBool_int h
   ·rw [b8v] at h; exact SeqAt.EqAt.int_str i t y u _ _ _ _ h
  ·rcases a0G hv with ⟨j, u, rfl, rfl⟩ | ⟨y, u, rfl, rfl⟩
   ·rw [b8u] at h; exact SeqAt.EqAt.str_int x t j u _ _ _ _ h
   ·rw [b8t] at h; exact wpAny_eqBool_str h
 «strs» := fun k x t v h => by
  rcases a0G h with ⟨i, u, rfl, e⟩ | ⟨y, u, rfl, e⟩
  ·exact nomatch e
  ·injection e with e1 _
   subst e1
   cases v <;> rfl
theorem b0J (prog : Program) (w : World) (k : Key) (v : Value) : (a0F prog w).is k v = a6W k v := rfl
theorem a8R (prog : Program) (w : World) (i : Int) (t : Tok) : (a0F prog w).is (.inl i) (.int i t) = true := a7P i t
theorem a8Q (prog : Program) (w : World) (x : Str) (t : Tok) : (a0F prog w).is (.inr x) (.str x t) = true := a7O x t
inductive V where
 | non | bl (b : Bool) | int (i : Int) | str (x : Str) | byt (b : Array UInt8) | flt (b : UInt64) | ref (a : Addr) | ty (n : String)
 deriving DecidableEq
noncomputable def RelV : V → Value → Prop
 | .non, u => u = Value.none
 | .bl b, u => u = Value.bool b
 | .int i, u => ∃ t, u = Value.int i t
 | .str x, u => ∃ t, u = Value.str x t
 | .byt b, u => ∃ t, u = Value.bytes b t
 | .flt b, u => ∃ t, u = Value.float b t
 | .ref a, u => u = Value.ref a
 | .ty n, u => u = Value.type n
noncomputable abbrev Vals : List V → List Value → Prop := Paired RelV
theorem Vals.length {xs : List V} {us : List Value} (r : Vals xs us) : xs.length = us.length := Paired.length r
theorem Vals.get : ∀ {xs : List V} {us : List Value} {i : Nat} {x : V}, Vals xs us → xs[i]? = some x → ∃ u, us[i]? = some u ∧ RelV x u
 | _, _, _, _, .nil, e => by simp at e
 | _, _, 0, _, .cons r _, e => by simp at e; subst e; exact ⟨_, rfl, r⟩
 | _, _, i + 1, x, .cons _ t, e => by
   obtain ⟨u, h1, h2⟩ := Vals.get (i := i) (x := x) t (by simpa using e)
   exact ⟨u, by simpa using h1, h2⟩
theorem Vals.set {x : V} {u : Value} (r : RelV x u) : ∀ {xs : List V} {us : List Value} (i : Nat), Vals xs us → Vals (xs.set i x) (us.set i u)
 | _, _, _, .nil => .nil
 | _, _, 0, .cons _ t => .cons r t
 | _, _, i + 1, .cons q t => .cons q (Vals.set r i t)
theorem Vals.append : ∀ {xs ys : List V} {us ws : List Value}, Vals xs us → Vals ys ws → Vals (xs ++ ys) (us ++ ws)
 | _, _, _, _, .nil, s => s
 | _, _, _, _, .cons r t, s => .cons r (Vals.append t s)
theorem Vals.take : ∀ {xs : List V} {us : List Value} (n : Nat), Vals xs us → Vals (xs.take n) (us.take n)
 | _, _, 0, _ => .nil
 | _, _, _ + 1, .nil => .nil
 | _, _, n + 1, .cons r t => .cons r (Vals.take n t)
theorem Vals.drop : ∀ {xs : List V} {us : List Value} (n : Nat), Vals xs us → Vals (xs.drop n) (us.drop n)
 | _, _, 0, r => r
 | _, _, _ + 1, .nil => .nil
 | _, _, n + 1, .cons _ t => Vals.drop n t
noncomputable def RelO : Option V → Option Value → Prop
 | some v, some u => RelV v u
 | none, none => True
 | _, _ => False
noncomputable def KV {κ : Type} : List (κ × V) → List (κ × Value) → Prop := Paired fun (p : κ × V) (q : κ × Value) => p.1 = q.1 ∧ RelV p.2 q.2
noncomputable def kV : Key → V
 | .inl i => .int i
 | .inr x => .str x
inductive HO where
 /-- a list -/
 | lst (xs : List V)
 /-- a tuple (never changes) -/
 | tup (xs : List V)
 /-- a dict whose keys are ints and texts; one whose keys are tuples of ints and texts (the empty one is both) -/
 | dK (kvs : List (Key × V)) | dT (kvs : List (List Key × V))
 /-- a set of ints: its members, its size -/
 | set (S : Int → Bool) (n : Nat)
 /-- an instance of the class at C, its dict at dx, its attributes -/
 | ins (C dx : Addr) (fs : List (Str × V))
 /-- the dict of the instance at x -/
 | own (x : Addr)
 /-- the dict of an exception -/
 | xd (fs : List (Str × V))
 /-- a bound method, f of x -/
 | met (f x : Addr)
 /-- a range object lo, lo + 1, .. below hi -/
 | rng (lo hi : Int)
 /-- a thing that is known to the object (the script; a dict while a loop walks it): read, never written while it is so -/
 | frz (o : Obj) (u : HO)
 /-- a code object's table -/
 | tbl (ps : Array Value)
 /-- any other thing, by what is true of its one object (a def of one's own: SetO a S n := HO.ext fun h => ..) -/
 | ext (φ : Heap → Prop)
noncomputable abbrev Hp := Addr → Option HO
noncomputable def a2g (h : Heap) (a : Addr) (items : Array Value) : Prop := ∃ o, h.get? a = some o ∧ o.cls = .type "tuple" ∧ o.dict = none ∧ ∃ n, o.data = .seq items n
theorem a2g.t {h : Heap} {a : Addr} {items : Array Value} (x : a2g h a items) : IsTup h a items := let ⟨o, e, c, _, n, d⟩ := x; ⟨o, e, c, n, d⟩
theorem a2g.lt {h : Heap} {a : Addr} {items : Array Value} (x : a2g h a items) : a < h.objs.size := x.t.lt
theorem a2g.new (h : Heap) (items : Array Value) : a2g (h.push { cls := .type "tuple", data := .seq items }) h.objs.size items := ⟨_, Heap.get?_push_size _ rfl, rfl, rfl, 0, rfl⟩
noncomputable def upd (H : Hp) (a : Addr) (o : HO) : Hp := fun b => if b = a then some o else H b
theorem a0s {H : Hp} {a : Addr} {o : HO} : upd H a o a = some o := by unfold upd; rw [if_pos rfl]
theorem a0l {H : Hp} {a b : Addr} {o : HO} (h : b ≠ a) : upd H a o b = H b := by unfold upd; rw [if_neg h]
theorem b6k {H : Hp} {a b : Addr} {o u : HO} (h : H a = some o) (h' : H b = some u) (d : o ≠ u) : a ≠ b := by
 intro e; subst e; rw [h] at h'; exact d (Option.some.inj h')
theorem a0k {H : Hp} {a b : Addr} {o : HO} (h : H a = some o) (h' : H b = none) : a ≠ b := by
 intro e; subst e; rw [h] at h'; cases h'
section
variable (P : Program) (w : World)
noncomputable def a0R (H : Hp) (h : Heap) (a : Addr) : HO → Prop
 | .lst xs => xs.length ≤ sizeLine ∧ ∃ (its : List Value) (n : Nat), Vals xs its ∧ h.get? a = some { cls := .type "list", data := .seq its.toArray n }
 | .tup xs => xs.length ≤ sizeLine ∧ ∃ its : List Value, Vals xs its ∧ a2g h a its.toArray
 | .dK kvs => kvs.length ≤ sizeLine ∧ (a == sysModules) = false ∧ ∃ vs, KV kvs vs ∧ h.DictOf (a0F P w) a vs
 | .dT kvs => kvs.length ≤ sizeLine ∧ (a == sysModules) = false ∧ ∃ xs : List (List Key × Addr × Value),
   Paired (fun (p : List Key × V) (q : List Key × Addr × Value) => p.1 = q.1 ∧ H q.2.1 = some (.tup (p.1.map kV)) ∧ RelV p.2 q.2.2) kvs xs ∧
   ∃ o es ep, h.get? a = some o ∧ o.ExactDict ∧ o.data = .dict es ep ∧ es.toList = xs.map (entryOfKey (tupleKind (a0F P w))) ∧ (xs.map (·.1)).Nodup
 | .set S n => h.SetOf (intKind P w) a S n
 | .ins C dx fs => H dx = some (.own a) ∧ fs.length ≤ 1000 ∧ dx ≠ a ∧ h.get? a = some (PySem.W.instObj C dx) ∧
   ∃ mA, h.Ns1 dx mA ∧ (∀ f, RelO (fs.lookup f) (mA f)) ∧ PySem.Within mA (fs.map (·.1))
 | .own _ => ∃ o, h.get? a = some o
 | .xd fs => ∃ mA, h.Ns1 a mA ∧ ∀ f, RelO (fs.lookup f) (mA f)
 | .rng lo hi => ∃ t u v, h.get? a = some { cls := .type "range", data := .fields #[.int lo t, .int hi u, .int 1 v] }
 | .frz o u => h.get? a = some o ∧ a0R H h a u
 | .tbl ps => h.get? a = some { cls := .none, data := .fields ps }
 | .met f x => h.get? a = some (PySem.W.methodObj (.ref f) (.ref x))
 | .ext φ => φ h ∧ (∃ o, h.get? a = some o) ∧ ∀ h1 h2 : Heap, φ h1 → (∀ o, h1.get? a = some o → h2.get? a = some o) → φ h2
noncomputable def HOk (H : Hp) (h : Heap) : Prop := ∀ a o, H a = some o → a0R P w H h a o
end
section
variable {P : Program} {w : World} {H H' : Hp} {h h' : Heap} {a : Addr} {o : HO}
theorem a0R.lt (x : a0R P w H h a o) : a < h.objs.size := by
 cases o with
 | lst xs => obtain ⟨_, _, _, _, e⟩ := x; exact Heap.lt_size e
 | tup xs => obtain ⟨_, _, _, p⟩ := x; exact p.lt
 | dK kvs => obtain ⟨_, _, _, _, o, _, _, e, _⟩ := x; exact Heap.lt_size e
 | dT kvs => obtain ⟨_, _, _, _, o, _, _, e, _⟩ := x; exact Heap.lt_size e
 | set S n => obtain ⟨o, _, _, _, e, _⟩ := x; exact Heap.lt_size e
 | ins C dx fs => obtain ⟨_, _, _, e, _⟩ := x; exact Heap.lt_size e
 | own y => obtain ⟨_, e⟩ := x; exact Heap.lt_size e
 | xd fs => obtain ⟨_, ⟨_, _, _, e, _⟩, _⟩ := x; exact Heap.lt_size e
 | rng lo hi => obtain ⟨_, _, _, e⟩ := x; exact Heap.lt_size e
 | frz ob u => obtain ⟨e, _⟩ := x; exact Heap.lt_size e
 | tbl ps => exact Heap.lt_size (show h.get? a = some _ from x)
 | met f y => exact Heap.lt_size (show h.get? a = some _ from x)
 | ext φ => obtain ⟨_, ⟨_, e⟩, _⟩ := x; exact Heap.lt_size e
theorem Paired.mapP {α β : Type} {F G : α → β → Prop} : ∀ {l₁ : List α} {l₂ : List β}, Paired F l₁ l₂ → (∀ a b, F a b → G a b) → Paired G l₁ l₂
 | _, _, .nil, _ => .nil
 | _, _, .cons r t, f => .cons (f _ _ r) (Paired.mapP t f)
theorem a0R.stay (x : a0R P w H h a o) (k : ∀ b u, (b = a ∨ H b = some (.own a)) → h.get? b = some u → h'.get? b = some u)
  (ho : ∀ b, H b = some (.own a) → H' b = some (.own a)) (ht : ∀ b xs, H b = some (.tup xs) → H' b = some (.tup xs)) : a0R P w H' h' a o := by
 induction o with
 | lst xs => obtain ⟨z, its, n, r, e⟩ := x; exact ⟨z, its, n, r, k _ _ (.inl rfl) e⟩
 | tup xs => obtain ⟨z, its, r, ob, e, c⟩ := x; exact ⟨z, its, r, ob, k _ _ (.inl rfl) e, c⟩
 | dK kvs => obtain ⟨z, y, vs, r, ob, es, ep, e, c⟩ := x; exact ⟨z, y, vs, r, ob, es, ep, k _ _ (.inl rfl) e, c⟩
 | dT kvs =>
   obtain ⟨z, y, xs, r, ob, es, ep, e, c⟩ := x
   exact ⟨z, y, xs, Paired.mapP r fun p q z => ⟨z.1, ht _ _ z.2.1, z.2.2⟩, ob, es, ep, k _ _ (.inl rfl) e, c⟩
 | set S n => obtain ⟨ob, es, ep, t, e, c⟩ := x; exact ⟨ob, es, ep, t, k _ _ (.inl rfl) e, c⟩
 | ins C dx fs =>
   obtain ⟨d, z, ne, e, mA, ⟨od, es, ep, e2, c⟩, r⟩ := x
   exact ⟨ho _ d, z, ne, k _ _ (.inl rfl) e, mA, ⟨od, es, ep, k _ _ (.inr d) e2, c⟩, r⟩
 | own y => obtain ⟨ob, e⟩ := x; exact ⟨ob, k _ _ (.inl rfl) e⟩
 | xd fs => obtain ⟨mA, ⟨od, es, ep, e, c⟩, r⟩ := x; exact ⟨mA, ⟨od, es, ep, k _ _ (.inl rfl) e, c⟩, r⟩
 | rng lo hi => obtain ⟨t, u, v, e⟩ := x; exact ⟨t, u, v, k _ _ (.inl rfl) e⟩
 | frz ob u ih => obtain ⟨e, q⟩ := x; exact ⟨k _ _ (.inl rfl) e, ih q⟩
 | tbl ps =>
   have e : h.get? a = some { cls := .none, data := .fields ps } := x
   show h'.get? a = some { cls := .none, data := .fields ps }
   exact k a _ (.inl rfl) e
 | met f y =>
   have e : h.get? a = some (PySem.W.methodObj (.ref f) (.ref y)) := x
   show h'.get? a = some (PySem.W.methodObj (.ref f) (.ref y))
   exact k a _ (.inl rfl) e
 | ext φ => obtain ⟨p, ⟨o, e⟩, st⟩ := x; exact ⟨st _ _ p fun o q => k _ _ (.inl rfl) q, ⟨o, k _ _ (.inl rfl) e⟩, st⟩
theorem HOk.lt (x : HOk P w H h) (e : H a = some o) : a < h.objs.size := (x a o e).lt
theorem HOk.fresh (x : HOk P w H h) (e : h.objs.size ≤ a) : H a = none := by
 cases q : H a with
 | none => rfl
 | some u => exact absurd (Nat.lt_of_lt_of_le (x.lt q) e) (Nat.lt_irrefl _)
theorem HOk.kept (x : HOk P w H h) (k : ∀ b u, h.get? b = some u → h'.get? b = some u) : HOk P w H h' := fun a o e =>
 (x a o e).stay (fun b u _ q => k b u q) (fun _ q => q) fun _ _ q => q
theorem HOk.laid (x : HOk P w H h) (k : ∀ b u, h.get? b = some u → h'.get? b = some u) (hp : h.objs.size ≤ a) (new : a0R P w (upd H a o) h' a o) : HOk P w (upd H a o) h' := fun b u e => by
 have hn := x.fresh hp
 by_cases hb : b = a
 ·subst hb; rw [a0s] at e; cases e; exact new
 ·rw [a0l hb] at e
  exact (x b u e).stay (fun c v _ q => k c v q) (fun c q => by rw [a0l (a0k q hn)]; exact q) fun c xs q => by rw [a0l (a0k q hn)]; exact q
end
noncomputable def Rd (H : Hp) (a : Addr) (u : HO) : Prop := H a = some u ∨ ∃ o, H a = some (.frz o u)
theorem Rd.of {H : Hp} {a : Addr} {u : HO} (h : H a = some u) : Rd H a u := .inl h
theorem Rd.ok {P : Program} {w : World} {H : Hp} {h : Heap} {a : Addr} {u : HO} (r : Rd H a u) (x : HOk P w H h) : a0R P w H h a u := by
 rcases r with r | ⟨o, r⟩
 ·exact x a u r
 ·obtain ⟨_, q⟩ := x a _ r
  exact q
noncomputable def Mut : Option HO → Prop
 | some (.lst _) => True
 | some (.dK _) => True
 | some (.dT _) => True
 | some (.set _ _) => True
 | some (.ins _ _ _) => True
 | some (.ext _) => True
 | _ => False
section
variable {P : Program} {w : World} {H : Hp} {h h' : Heap} {x e : Addr} {o' : HO}
theorem HOk.write (ok : HOk P w H h) (mu : Mut (H x)) (he : e = x ∨ H e = some (.own x)) (k : ∀ b u, b ≠ e → h.get? b = some u → h'.get? b = some u) (heo : ∃ u, h'.get? e = some u)
  (new : a0R P w (upd H x o') h' x o') : HOk P w (upd H x o') h' := fun b u q => by
 have nown : ∀ c y, H c = some (.own y) → c ≠ x := fun c y r z => by subst z; rw [r] at mu; exact mu
 have ntup : ∀ c xs, H c = some (.tup xs) → c ≠ x := fun c xs r z => by subst z; rw [r] at mu; exact mu
 by_cases hb : b = x
 ·subst hb; rw [a0s] at q; cases q; exact new
 ·rw [a0l hb] at q
  by_cases hbe : b = e
  ·have q' : H b = some (.own x) := by
    rcases he with z | z
    ·exact absurd (hbe.trans z) hb
    ·rw [hbe]; exact z
   rw [q] at q'; cases q'
   obtain ⟨v, hv⟩ := heo
   exact ⟨v, by rw [hbe]; exact hv⟩
  ·refine (ok b u q).stay (fun c v hc r => k c v ?_ r) (fun c r => by rw [a0l (nown c b r)]; exact r) fun c xs r => by rw [a0l (ntup c xs r)]; exact r
   rcases hc with rfl | hc
   ·exact hbe
   ·rintro rfl
    rcases he with z | z
    ·exact nown c b hc z
    ·rw [hc] at z; cases z; exact hb rfl
end
structure Un (fs ex : List Addr) (H H' : Hp) (h h' : Heap) : Prop where
 keep : ∀ b o, h.get? b = some o → H b = none → b ∉ fs → b ∉ ex → h'.get? b = some o
 slot : ∀ b o, h.get? b = some o → H b = none → b ∈ fs → b ∉ ex → ∃ sl, h'.get? b = some { o with slots := sl }
 free : ∀ b o, h.get? b = some o → H b = none → b ∉ ex → H' b = none
 there : ∀ b o, h.get? b = some o → b ∉ ex → ∃ o', h'.get? b = some o'
 tups : ∀ b xs, H b = some (.tup xs) → H' b = some (.tup xs)
 frzs : ∀ b o u, H b = some (.frz o u) → H' b = some (.frz o u)
 tbls : ∀ b ps, H b = some (.tbl ps) → ∃ more, H' b = some (.tbl (ps ++ more))
section
variable {fs fs' ex ex' : List Addr} {H H1 H2 : Hp} {h h1 h2 h' : Heap} {a x e : Addr} {o : HO}
theorem Un.any (u : Un fs ex H H1 h h1) {b : Addr} {ob : Obj} (q : h.get? b = some ob) (n : H b = none) (hx : b ∉ ex) : ∃ sl, h1.get? b = some { ob with slots := sl } := by
 by_cases hb : b ∈ fs
 ·exact u.slot b ob q n hb hx
 ·exact ⟨ob.slots, u.keep b ob q n hb hx⟩
theorem Un.kept (k : ∀ b u, h.get? b = some u → h'.get? b = some u) : Un fs ex H H h h' :=
 ⟨fun b ob q _ _ _ => k b ob q, fun b ob q _ _ _ => ⟨ob.slots, k b ob q⟩, fun _ _ _ n _ => n, fun b ob q _ => ⟨ob, k b ob q⟩, fun _ _ q => q, fun _ _ _ q => q, fun _ ps q => ⟨#[], by rw [q]; simp⟩⟩
theorem Un.refl : Un fs ex H H h h := Un.kept fun _ _ q => q
theorem Un.laid (k : ∀ b u, h.get? b = some u → h'.get? b = some u) (hp : h.objs.size ≤ a) (hn : H a = none) : Un fs ex H (upd H a o) h h' where
 keep := fun b u q _ _ _ => k b u q
 slot := fun b u q _ _ _ => ⟨u.slots, k b u q⟩
 free := fun b u q n _ => by rw [a0l (Nat.ne_of_lt (Nat.lt_of_lt_of_le (Heap.lt_size q) hp))]; exact n
 there := fun b u q _ => ⟨u, k b u q⟩
 tups := fun b xs q => by rw [a0l (a0k q hn)]; exact q
 frzs := fun b u xs q => by rw [a0l (a0k q hn)]; exact q
 tbls := fun b ps q => ⟨#[], by rw [a0l (a0k q hn), q]; simp⟩
theorem Un.write (mu : Mut (H x)) (he : e = x ∨ H e = some (.own x)) (k : ∀ b u, b ≠ e → h.get? b = some u → h'.get? b = some u) (heo : ∃ u, h'.get? e = some u) : Un fs ex H (upd H x o) h h' := by
 have hx : ∀ b, H b = none → b ≠ x := fun b n z => by subst z; rw [n] at mu; exact mu
 have hb : ∀ b, H b = none → b ≠ e := fun b n z => by
  subst z
  rcases he with r | r
  ·exact hx b n r
  ·rw [n] at r; cases r
 have hm : ∀ b u, H b = some u → ¬ Mut (some u) → b ≠ x := fun b u q nm z => by subst z; rw [q] at mu; exact nm mu
 refine ⟨fun b u q n _ _ => k b u (hb b n) q, fun b u q n _ _ => ⟨u.slots, k b u (hb b n) q⟩, fun b u q n _ => by rw [a0l (hx b n)]; exact n, fun b u q _ => ?_,
  fun b xs q => by rw [a0l (hm b _ q fun z => z)]; exact q, fun b u xs q => by rw [a0l (hm b _ q fun z => z)]; exact q, fun b ps q => ⟨#[], by rw [a0l (hm b _ q fun z => z), q]; simp⟩⟩
 by_cases hbe : b = e
 ·subst hbe; exact heo
 ·exact ⟨u, k b u hbe q⟩
end
noncomputable def trk (h : Heap) (H : Hp) : List Addr := (List.range h.objs.size).filter fun a => (H a).isSome
noncomputable def hidT (h : Heap) (H : Hp) : Heap := PySem.W.hideAll h (trk h H)
theorem b2z (h : Heap) (H : Hp) : (hidT h H).objs.size = h.objs.size := PySem.W.hideAll_size _ _
theorem b4h {h : Heap} {H : Hp} {b : Addr} {o : Obj} (e : h.get? b = some o) (n : H b = none) : (hidT h H).get? b = some o :=
 PySem.W.hideAll_get _ e fun hm => by
  have q : (H b).isSome = true := (List.mem_filter.mp hm).2
  rw [n] at q; simp at q
theorem b6i {h : Heap} {H : Hp} {b : Addr} {o : Obj} (e : (hidT h H).get? b = some o) : h.get? b = some o ∧ H b = none := by
 have e' : h.get? b = some o := PySem.W.of_hideAll (trk h H) e
 refine ⟨e', ?_⟩
 cases q : H b with
 | none => rfl
 | some x =>
   have hm : b ∈ trk h H := List.mem_filter.mpr ⟨List.mem_range.mpr (Heap.lt_size e'), by simp [q]⟩
   have z : (hidT h H).get? b = none := PySem.W.hideAll_none (trk h H) hm
   rw [z] at e; cases e
structure Mod (K : PySem.W.Frag) (mg : Str → Option Value) (base : Heap) : Prop where
 kin : K.In base
 glob : base.Ns mainGlobals mg
 blt : ∃ mb, base.Ns builtinsNs mb ∧ ∀ x : Str, x ≠ "__name__" → mb x = bootBuiltins x
 nolimit : base.NoLimit
structure Cx where
 prog : Program
 w : World
 K : PySem.W.Frag
 mg : Str → Option Value
 base : Heap
 A : Around
 N : List Str
 s₀ : Shared
 H₀ : Hp
 env : Env
 outer : List Env
 stack : List Env
 ex : List Addr
 fn : Str → Bool
 calm : Bool
 pn : List (Addr × Obj)
 xe : Value → Shared → Prop
noncomputable def frs (l : List Env) : List Addr := l.filterMap (·.frame)
noncomputable abbrev Cx.fs (X : Cx) : List Addr := frs X.outer
noncomputable def Vis (sc : Scope) (x : Str) : Prop := sc.names.lookup x = some .local ∨ sc.names.lookup x = some .cell ∨ sc.names.lookup x = some .free
noncomputable def Loc (sc : Scope) (x : Str) : Prop := sc.names.lookup x = some .local ∨ sc.names.lookup x = some .cell
noncomputable def Look (env : Env) (h : Heap) (m : Str → Option Value) (x : Str) (u : Value) : Prop :=
 (env.kindOf x = some .local ∧ m x = some u) ∨ ((env.kindOf x = some .cell ∨ env.kindOf x = some .free) ∧ ∃ c, env.cells.lookup x = some c ∧ h.IsCell c (some u))
structure Cx.Ok (X : Cx) : Prop where
 mod : Mod X.K X.mg X.base
 kind : X.env.scope.kind = .function
 glob : X.env.globals = mainGlobals
 blt : X.env.builtins = builtinsNs
 above : X.s₀.heap.objs.size ≤ X.env.locals
 inj : ∀ x y c, X.env.cells.lookup x = some c → X.env.cells.lookup y = some c → x = y
 has : ∀ x, (X.env.kindOf x = some .cell ∨ X.env.kindOf x = some .free) → ∃ c, X.env.cells.lookup x = some c
 cab : ∀ x c, X.fn x = true → X.env.cells.lookup x = some c → X.s₀.heap.objs.size ≤ c
 hd : X.calm = true → X.A.handled = none
 frames : X.A.frames = some X.stack
 stk : X.stack = X.outer ∨ (X.stack = X.env :: X.outer ∧ X.env.frame = some X.env.locals)
 exf : ∀ b ∈ X.ex, b ≠ X.env.locals ∧ ∀ x c, X.env.cells.lookup x = some c → c ≠ b
 bs : ∀ b o, X.base.get? b = some o → X.s₀.heap.get? b = some o ∧ X.H₀ b = none
 bsz : X.base.objs.size ≤ X.s₀.heap.objs.size
 noex : ∀ b o, X.base.get? b = some o → b ∉ X.ex
 exfs : ∀ b ∈ X.ex, b ∉ X.fs
 funs : X.s₀.heap.FunFrames X.base X.outer
 frf : ∀ b ∈ X.fs, X.H₀ b = none
structure Inv (X : Cx) (pins : List (Addr × Obj)) (σ : List (Option V)) (H : Hp) (s : Shared) : Prop where
 ok : X.Ok
 os : s.os = X.s₀.os
 bare : AllBare s.gens
 base : Un X.fs X.ex X.H₀ H X.s₀.heap s.heap
 loc : ∃ m, s.heap.Ns X.env.locals m ∧ ∀ (i : Nat) (x : Str) (v : V), X.N[i]? = some x → σ[i]? = some (some v) → Vis X.env.scope x → ∃ u, RelV v u ∧ Look X.env s.heap m x u
 cell : ∀ x c, X.env.cells.lookup x = some c → ∃ v, s.heap.IsCell c v
 free : H X.env.locals = none
 freeC : ∀ x c, X.env.cells.lookup x = some c → H c = none
 pin : ∀ p ∈ X.pn ++ pins, s.heap.get? p.1 = some p.2 ∧ H p.1 = none ∧ p.1 ≠ X.env.locals ∧ p.1 ∉ X.fs ∧ ∀ v, p.2.data ≠ .cell v
 hok : HOk X.prog X.w H s.heap
 len : σ.length = X.N.length
section
variable {X : Cx} {pins : List (Addr × Obj)} {σ : List (Option V)} {H H' : Hp} {s : Shared} {h' : Heap}
theorem Cx.Ok.nofr (ok : X.Ok) {b : Addr} {o : Obj} (e : X.base.get? b = some o) : b ∉ X.fs := fun hb => by
 have := (ok.funs.mem hb).1
 rw [e] at this; cases this
theorem Inv.bs (I : Inv X pins σ H s) : ∀ b o, X.base.get? b = some o → s.heap.get? b = some o ∧ H b = none := fun b o e =>
 ⟨I.base.keep b o (I.ok.bs b o e).1 (I.ok.bs b o e).2 (I.ok.nofr e) (I.ok.noex b o e), I.base.free b o (I.ok.bs b o e).1 (I.ok.bs b o e).2 (I.ok.noex b o e)⟩
theorem Inv.bk (I : Inv X pins σ H s) : ∀ b o, X.base.get? b = some o → s.heap.get? b = some o := fun b o e => (I.bs b o e).1
theorem Inv.mod (I : Inv X pins σ H s) : Mod X.K X.mg X.base := I.ok.mod
theorem Inv.kIn (I : Inv X pins σ H s) : X.K.In s.heap := I.ok.mod.kin.keeps I.bk
theorem Inv.lt (I : Inv X pins σ H s) : X.env.locals < s.heap.objs.size := let ⟨_, hn, _⟩ := I.loc; hn.lt
theorem Inv.sz (I : Inv X pins σ H s) : X.s₀.heap.objs.size ≤ s.heap.objs.size := Nat.le_trans I.ok.above (Nat.le_of_lt I.lt)
theorem Inv.nofs (I : Inv X pins σ H s) {a : Addr} (h : s.heap.objs.size ≤ a) : a ∉ X.fs := fun hb => by
 obtain ⟨_, o, ho, _⟩ := I.ok.funs.mem hb
 exact absurd (Nat.lt_of_lt_of_le (Heap.lt_size ho) (Nat.le_trans I.sz h)) (Nat.lt_irrefl _)
theorem Inv.cne (I : Inv X pins σ H s) : ∀ x c, X.env.cells.lookup x = some c → c ≠ X.env.locals := fun x c e z => by
 obtain ⟨v, o, ho, hd⟩ := I.cell x c e
 obtain ⟨m, ⟨o', es, ep, ho', hd', _⟩, _⟩ := I.loc
 rw [z, ho'] at ho; cases ho; rw [hd'] at hd; cases hd
theorem Inv.funs (I : Inv X pins σ H s) : s.heap.FunFrames X.base X.outer := by
 have all : ∀ (l : List Env), (∀ b ∈ frs l, b ∈ X.fs) → X.s₀.heap.FunFrames X.base l → s.heap.FunFrames X.base l := by
  intro l
  induction l with
  | nil => intro _ _; trivial
  | cons env r ih =>
    intro hs hl
    obtain ⟨hk, ⟨L, o, hf, hn, ho, hd⟩, hr⟩ := hl
    have hL : L ∈ X.fs := hs L (by unfold frs; rw [List.filterMap_cons, hf]; exact List.mem_cons_self)
    obtain ⟨sl, e⟩ := I.base.slot L o ho (I.ok.frf L hL) hL fun z => I.ok.exfs L z hL
    exact ⟨hk, ⟨L, _, hf, hn, e, hd⟩, ih (fun b hb => hs b (by unfold frs; rw [List.filterMap_cons, hf]; exact List.mem_cons_of_mem _ hb)) hr⟩
 exact all X.outer (fun _ hb => hb) I.ok.funs
theorem Inv.stack (I : Inv X pins σ H s) : s.heap.FunFrames X.base X.stack := by
 rcases I.ok.stk with e | ⟨e, hf⟩
 ·rw [e]; exact I.funs
 ·rw [e]
  obtain ⟨m, hn, _⟩ := I.loc
  refine .cons (by rw [I.ok.kind]; decide) hf hn ?_ I.funs
  exact Heap.get?_none_of_le (Nat.le_trans I.ok.bsz I.ok.above)
theorem Inv.stkSub (I : Inv X pins σ H s) : ∀ b ∈ frs X.stack, b ∈ X.env.locals :: X.fs := fun b hb => by
 rcases I.ok.stk with e | ⟨e, hf⟩
 ·rw [e] at hb; exact List.mem_cons_of_mem _ hb
 ·rw [e] at hb
  unfold frs at hb
  rw [List.filterMap_cons, hf] at hb
  exact hb
theorem Inv.stkFree (I : Inv X pins σ H s) : ∀ b ∈ frs X.stack, H b = none := fun b hb => by
 rcases List.mem_cons.mp (I.stkSub b hb) with e | hb
 ·rw [e]; exact I.free
 ·obtain ⟨_, o, ho, _⟩ := I.ok.funs.mem hb
  exact I.base.free b o ho (I.ok.frf b hb) fun z => I.ok.exfs b z hb
theorem Inv.step {g' : Array GenState} {t' : Nat} {d' : Drawn} {ch : List Addr} (I : Inv X pins σ H s)
  (hch : ∀ b ∈ ch, (b ∈ X.ex ∨ X.s₀.heap.objs.size ≤ b) ∧ b ≠ X.env.locals ∧ (∀ x c, X.env.cells.lookup x = some c → c ≠ b) ∧ ∀ p ∈ X.pn ++ pins, p.1 ≠ b)
  (keep : ∀ b o, b ≠ X.env.locals → b ∉ X.fs → b ∉ ch → s.heap.get? b = some o → H b = none → h'.get? b = some o)
  (slot : ∀ b o, b ≠ X.env.locals → b ∈ X.fs → b ∉ ch → s.heap.get? b = some o → H b = none → ∃ sl, h'.get? b = some { o with slots := sl }) (free : ∀ b o, b ∉ ch → s.heap.get? b = some o → H b = none → H' b = none)
  (there : ∀ b o, b ∉ ch → s.heap.get? b = some o → ∃ o', h'.get? b = some o')
  (tups : ∀ b xs, H b = some (.tup xs) → H' b = some (.tup xs)) (frzs : ∀ b o u, H b = some (.frz o u) → H' b = some (.frz o u)) (tbls : ∀ b ps, H b = some (.tbl ps) → ∃ more, H' b = some (.tbl (ps ++ more)))
  (ns : ∀ m, s.heap.Ns X.env.locals m → h'.Ns X.env.locals m) (hok : HOk X.prog X.w H' h') (hg : AllBare g') :
  Inv X pins σ H' { s with heap := h', gens := g', drawn := d', toks := t' } := by
 have neL : ∀ b o, X.s₀.heap.get? b = some o → b ≠ X.env.locals := fun b o e => Nat.ne_of_lt (Nat.lt_of_lt_of_le (Heap.lt_size e) I.ok.above)
 have neC : ∀ b o, X.s₀.heap.get? b = some o → b ∉ X.ex → b ∉ ch := fun b o e hx hb => by
  rcases (hch b hb).1 with z | z
  ·exact hx z
  ·exact absurd (Nat.lt_of_lt_of_le (Heap.lt_size e) z) (Nat.lt_irrefl _)
 have cellK : ∀ x c, X.env.cells.lookup x = some c → ∀ v, s.heap.IsCell c v → h'.IsCell c v := fun x c e v ⟨o, ho, hd⟩ => by
  have nch : c ∉ ch := fun z => (hch c z).2.2.1 x c e rfl
  by_cases hc : c ∈ X.fs
  ·obtain ⟨sl, q⟩ := slot c o (I.cne x c e) hc nch ho (I.freeC x c e)
   exact ⟨_, q, hd⟩
  ·exact ⟨o, keep c o (I.cne x c e) hc nch ho (I.freeC x c e), hd⟩
 refine ⟨I.ok, I.os, hg, ⟨fun b o e n hb hx => ?_, fun b o e n hb hx => ?_, fun b o e n hx => ?_, fun b o e hx => ?_, fun b xs e => tups b xs (I.base.tups b xs e), fun b o xs e => frzs b o xs (I.base.frzs b o xs e), fun b ps e => ?_⟩, ?_, fun x c e => ?_, ?_, fun x c e => ?_, fun p hp => ?_, hok, I.len⟩
 ·exact keep b o (neL b o e) hb (neC b o e hx) (I.base.keep b o e n hb hx) (I.base.free b o e n hx)
 ·obtain ⟨sl, e1⟩ := I.base.slot b o e n hb hx
  obtain ⟨sl', e2⟩ := slot b _ (neL b o e) hb (neC b o e hx) e1 (I.base.free b o e n hx)
  exact ⟨sl', e2⟩
 ·obtain ⟨o', e1⟩ := I.base.there b o e hx
  exact free b o' (neC b o e hx) e1 (I.base.free b o e n hx)
 ·obtain ⟨o', e1⟩ := I.base.there b o e hx
  exact there b o' (neC b o e hx) e1
 ·obtain ⟨m1, e1⟩ := I.base.tbls b ps e
  obtain ⟨m2, e2⟩ := tbls b _ e1
  exact ⟨m1 ++ m2, by rw [e2, Array.append_assoc]⟩
 ·obtain ⟨m, hn, hl⟩ := I.loc
  refine ⟨m, ns m hn, fun i x v e1 e2 e3 => ?_⟩
  obtain ⟨u, r, l⟩ := hl i x v e1 e2 e3
  refine ⟨u, r, ?_⟩
  rcases l with l | ⟨k, c, e, z⟩
  ·exact .inl l
  ·exact .inr ⟨k, c, e, cellK x c e _ z⟩
 ·obtain ⟨v, z⟩ := I.cell x c e
  exact ⟨v, cellK x c e v z⟩
 ·obtain ⟨m, ⟨o, _, _, ho, _⟩, _⟩ := I.loc
  exact free _ o (fun z => (hch _ z).2.1 rfl) ho I.free
 ·obtain ⟨v, o, ho, hd⟩ := I.cell x c e
  exact free c o (fun z => (hch c z).2.2.1 x c e rfl) ho (I.freeC x c e)
 ·obtain ⟨e, n, ne, nf, d⟩ := I.pin p hp
  have nch : p.1 ∉ ch := fun z => (hch p.1 z).2.2.2 p hp rfl
  exact ⟨keep p.1 p.2 ne nf nch e n, free p.1 p.2 nch e n, ne, nf, d⟩
theorem Inv.un {t' : Nat} (I : Inv X pins σ H s) (u : Un X.fs [] H H' s.heap h') (hok : HOk X.prog X.w H' h') : Inv X pins σ H' { s with heap := h', toks := t' } := by
 obtain ⟨m, ⟨o, es, ep, ho, r⟩, _⟩ := id I.loc
 obtain ⟨sl, hL⟩ := u.any ho I.free (by simp)
 exact I.step (g' := s.gens) (d' := s.drawn) (ch := []) (fun _ z => nomatch z) (fun b o _ hb _ e n => u.keep b o e n hb (by simp)) (fun b o _ hb _ e n => u.slot b o e n hb (by simp)) (fun b o _ e n => u.free b o e n (by simp)) (fun b o _ e => u.there b o e (by simp)) u.tups u.frzs u.tbls (fun m' hm => by
  obtain ⟨o', es', ep', ho', r'⟩ := hm
  rw [ho] at ho'; cases ho'
  exact ⟨_, es', ep', hL, r'⟩) hok I.bare
theorem Inv.call {g' : Array GenState} {t' : Nat} {d' : Drawn} {ch : List Addr} (I : Inv X pins σ H s) (u : Un (frs X.stack) ch H H' s.heap h') (hok : HOk X.prog X.w H' h') (hg : AllBare g')
  (hch : ∀ b ∈ ch, (b ∈ X.ex ∨ X.s₀.heap.objs.size ≤ b) ∧ b ≠ X.env.locals ∧ (∀ x c, X.env.cells.lookup x = some c → c ≠ b) ∧ ∀ p ∈ X.pn ++ pins, p.1 ≠ b) :
  Inv X pins σ H' { s with heap := h', gens := g', drawn := d', toks := t' } := by
 obtain ⟨m, ⟨o, es, ep, ho, r⟩, _⟩ := id I.loc
 obtain ⟨sl, hL⟩ := u.any ho I.free fun z => (hch _ z).2.1 rfl
 exact I.step (ch := ch) hch (fun b o hL hb hc e n => u.keep b o e n (fun z => (List.mem_cons.mp (I.stkSub b z)).elim hL hb) hc) (fun b o _ _ hc e n => u.any e n hc) (fun b o hc e n => u.free b o e n hc) (fun b o hc e => u.there b o e hc) u.tups u.frzs u.tbls (fun m' hm => by
  obtain ⟨o', es', ep', ho', r'⟩ := hm
  rw [ho] at ho'; cases ho'
  exact ⟨_, es', ep', hL, r'⟩) hok hg
theorem Inv.turned {t' : Nat} {it : Addr} (I : Inv X pins σ H s) (k : ∀ b o, b ≠ it → s.heap.get? b = some o → h'.get? b = some o) (hn : H it = none) (hL : it ≠ X.env.locals)
  (h1 : it ∈ X.ex ∨ X.s₀.heap.objs.size ≤ it) (h2 : ∀ x c, X.env.cells.lookup x = some c → c ≠ it) (h3 : ∀ p ∈ X.pn ++ pins, p.1 ≠ it) : Inv X pins σ H { s with heap := h', toks := t' } := by
 have nit : ∀ b u, H b = some u → b ≠ it := fun b u e z => by rw [z, hn] at e; cases e
 refine I.step (g' := s.gens) (d' := s.drawn) (ch := [it]) (fun b hb => ?_) (fun b o _ _ hc e _ => k b o (fun z => hc (by simp [z])) e) (fun b o _ _ hc e _ => ⟨o.slots, k b o (fun z => hc (by simp [z])) e⟩) (fun _ _ _ _ n => n)
  (fun b o hc e => ⟨o, k b o (fun z => hc (by simp [z])) e⟩) (fun _ _ e => e) (fun _ _ _ e => e) (fun b ps e => ⟨#[], by rw [e]; simp⟩) (fun m hm => ?_) (fun b u e => ?_) I.bare
 ·have e : b = it := by simpa using hb
  subst e
  exact ⟨h1, hL, h2, h3⟩
 ·obtain ⟨o, es, ep, ho, r⟩ := hm
  exact ⟨o, es, ep, k _ o (Ne.symm hL) ho, r⟩
 ·refine (I.hok b u e).stay (fun c v hc q => k c v ?_ q) (fun _ q => q) fun _ _ q => q
  rcases hc with z | z
  ·rw [z]; exact nit b u e
  ·exact nit c _ z
theorem Inv.tok (I : Inv X pins σ H s) (t : Nat) : Inv X pins σ H { s with toks := t } := I.un (h' := s.heap) (t' := t) Un.refl I.hok
theorem Inv.kept {t' : Nat} (I : Inv X pins σ H s) (k : ∀ b u, s.heap.get? b = some u → h'.get? b = some u) : Inv X pins σ H { s with heap := h', toks := t' } := I.un (Un.kept k) (I.hok.kept k)
theorem Inv.laid {a : Addr} {o : HO} {t' : Nat} (I : Inv X pins σ H s) (k : ∀ b u, s.heap.get? b = some u → h'.get? b = some u) (hp : s.heap.objs.size ≤ a) (new : a0R X.prog X.w (upd H a o) h' a o) :
  Inv X pins σ (upd H a o) { s with heap := h', toks := t' } := I.un (Un.laid k hp (I.hok.fresh hp)) (I.hok.laid k hp new)
theorem Inv.write {x e : Addr} {o : HO} {t' : Nat} (I : Inv X pins σ H s) (mu : Mut (H x)) (he : e = x ∨ H e = some (.own x)) (k : ∀ b u, b ≠ e → s.heap.get? b = some u → h'.get? b = some u) (heo : ∃ u, h'.get? e = some u)
  (new : a0R X.prog X.w (upd H x o) h' x o) : Inv X pins σ (upd H x o) { s with heap := h', toks := t' } := I.un (Un.write mu he k heo) (I.hok.write mu he k heo new)
theorem Inv.weak {σ' : List (Option V)} (I : Inv X pins σ H s) (hl : σ'.length = σ.length) (w : ∀ (i : Nat) v, σ'[i]? = some (some v) → σ[i]? = some (some v)) : Inv X pins σ' H s :=
 ⟨I.ok, I.os, I.bare, I.base, let ⟨m, hn, hl'⟩ := I.loc; ⟨m, hn, fun i x v e1 e2 e3 => hl' i x v e1 (w i v e2) e3⟩, I.cell, I.free, I.freeC, I.pin, I.hok, hl.trans I.len⟩
theorem Inv.pins_of {pins' : List (Addr × Obj)} (I : Inv X pins σ H s) (h : ∀ p ∈ pins', s.heap.get? p.1 = some p.2 ∧ H p.1 = none ∧ p.1 ≠ X.env.locals ∧ p.1 ∉ X.fs ∧ ∀ v, p.2.data ≠ .cell v) : Inv X pins' σ H s :=
 ⟨I.ok, I.os, I.bare, I.base, I.loc, I.cell, I.free, I.freeC, fun p hp => (List.mem_append.mp hp).elim (fun z => I.pin p (List.mem_append_left _ z)) (h p), I.hok, I.len⟩
theorem a9J {N : List Str} (hN : N.Nodup) {i j : Nat} {x : Str} (a : N[i]? = some x) (b : N[j]? = some x) : i = j := by
 obtain ⟨h1, e1⟩ := List.getElem?_eq_some_iff.mp a
 obtain ⟨h2, e2⟩ := List.getElem?_eq_some_iff.mp b
 exact (List.getElem_inj hN).mp (e1.trans e2.symm)
theorem b1t {M : Model} {A : Around} {E : Value → Shared → Prop} {i : Nat} {x : Str} {v : V} {u : Value} {Q : Unit → Shared → Prop} (I : Inv X pins σ H s) (hN : X.N.Nodup) (hi : X.N[i]? = some x) (hx : Loc X.env.scope x) (r : RelV v u)
  (h : ∀ s', Inv X pins (σ.set i (some v)) H s' → (∃ a, Heap.SameBut a s.heap s'.heap ∧ (a = X.env.locals ∨ X.env.cells.lookup x = some a)) → Q () s') (hf : X.fn x = true ∨ X.env.scope.names.lookup x = some .local := by first | exact .inl rfl | exact .inr rfl | assumption) : wpAny M A (storeName X.env x u) Q E s := by
 obtain ⟨m, hn, hl⟩ := id I.loc
 have hcls : (X.env.scope.kind == .class || (X.env.scope.kind == .module && X.env.locals != X.env.globals)) = false := by rw [I.ok.kind]; rfl
 have hiσ : i < σ.length := by rw [I.len]; exact (List.getElem?_eq_some_iff.mp hi).1
 have cne := I.cne
 have tracked : ∀ {a : Addr} {h' : Heap}, (∃ o, s.heap.get? a = some o ∧ H a = none) → Heap.SameBut a s.heap h' → HOk X.prog X.w H h' := fun {a h'} ha hs b ob e => by
  obtain ⟨_, _, hfree⟩ := ha
  refine (I.hok b ob e).stay (fun c w' hc q => (hs.2 c ?_).trans q) (fun _ q => q) fun _ _ q => q
  rintro rfl
  rcases hc with rfl | hc
  ·rw [hfree] at e; cases e
  ·rw [hfree] at hc; cases hc
 rcases hx with hk | hk
 ·refine wpAny_storeName_local hk hn (fun h' hn' hs => ?_) hcls
  obtain ⟨oL, _, _, hoL, _⟩ := id hn
  refine h _ ⟨I.ok, I.os, I.bare, ⟨fun b o e n hb hx => ?_, fun b o e n hb hx => ?_, I.base.free, fun b o e hx => ?_, I.base.tups, I.base.frzs, I.base.tbls⟩, ⟨_, hn', fun j y v' e1 e2 e3 => ?_⟩, fun y c e => ?_, I.free, I.freeC, fun p hp => ?_, tracked ⟨oL, hoL, I.free⟩ hs, by simpa using I.len⟩ ⟨_, hs, .inl rfl⟩
  ·exact (hs.2 b (Nat.ne_of_lt (Nat.lt_of_lt_of_le (Heap.lt_size e) I.ok.above))).trans (I.base.keep b o e n hb hx)
  ·obtain ⟨sl, e1⟩ := I.base.slot b o e n hb hx
   exact ⟨sl, (hs.2 b (Nat.ne_of_lt (Nat.lt_of_lt_of_le (Heap.lt_size e) I.ok.above))).trans e1⟩
  ·obtain ⟨o', e1⟩ := I.base.there b o e hx
   exact ⟨o', (hs.2 b (Nat.ne_of_lt (Nat.lt_of_lt_of_le (Heap.lt_size e) I.ok.above))).trans e1⟩
  ·by_cases hj : j = i
   ·subst hj
    rw [hi] at e1; cases e1
    rw [List.getElem?_set_self hiσ] at e2
    cases e2
    exact ⟨u, r, .inl ⟨hk, by simp⟩⟩
   ·rw [List.getElem?_set_ne (Ne.symm hj)] at e2
    obtain ⟨u', r', q⟩ := hl j y v' e1 e2 e3
    refine ⟨u', r', ?_⟩
    rcases q with ⟨k, e⟩ | ⟨k, c, e, z⟩
    ·refine .inl ⟨k, ?_⟩
     have : y ≠ x := fun e => hj (a9J hN e1 (e ▸ hi))
     simp [this, e]
    ·exact .inr ⟨k, c, e, z.sameBut hs (cne y c e)⟩
  ·obtain ⟨w', z⟩ := I.cell y c e
   exact ⟨w', z.sameBut hs (cne y c e)⟩
  ·obtain ⟨e, n, ne, nf, d⟩ := I.pin p hp
   exact ⟨(hs.2 p.1 ne).trans e, n, ne, nf, d⟩
 ·have hfn : X.fn x = true := by
   rcases hf with z | z
   ·exact z
   ·rw [z] at hk; cases hk
  obtain ⟨c, hc⟩ := I.ok.has x (.inl hk)
  obtain ⟨w', z⟩ := I.cell x c hc
  refine wpAny_storeName_cell I.ok.kind hk hc z (fun h' hc' hs => ?_)
  obtain ⟨oc, hoc, hocd⟩ := id z
  refine h { s with heap := h' } ⟨I.ok, I.os, I.bare, ⟨fun b o e n hb hx => ?_, fun b o e n hb hx => ?_, I.base.free, fun b o e hx => ?_, I.base.tups, I.base.frzs, I.base.tbls⟩, ⟨m, hn.sameBut hs (Ne.symm (cne x c hc)), fun j y v' e1 e2 e3 => ?_⟩, fun y c' e => ?_, I.free, I.freeC, fun p hp => ?_, tracked ⟨oc, hoc, I.freeC x c hc⟩ hs, by simpa using I.len⟩ ⟨c, hs, .inr hc⟩
  ·exact (hs.2 b (Nat.ne_of_lt (Nat.lt_of_lt_of_le (Heap.lt_size e) (I.ok.cab x c hfn hc)))).trans (I.base.keep b o e n hb hx)
  ·obtain ⟨sl, e1⟩ := I.base.slot b o e n hb hx
   exact ⟨sl, (hs.2 b (Nat.ne_of_lt (Nat.lt_of_lt_of_le (Heap.lt_size e) (I.ok.cab x c hfn hc)))).trans e1⟩
  ·obtain ⟨o', e1⟩ := I.base.there b o e hx
   exact ⟨o', (hs.2 b (Nat.ne_of_lt (Nat.lt_of_lt_of_le (Heap.lt_size e) (I.ok.cab x c hfn hc)))).trans e1⟩
  ·by_cases hj : j = i
   ·subst hj
    rw [hi] at e1; cases e1
    rw [List.getElem?_set_self hiσ] at e2
    cases e2
    exact ⟨u, r, .inr ⟨.inl hk, c, hc, hc'⟩⟩
   ·rw [List.getElem?_set_ne (Ne.symm hj)] at e2
    obtain ⟨u', r', q⟩ := hl j y v' e1 e2 e3
    refine ⟨u', r', ?_⟩
    rcases q with q | ⟨k, c', e, z'⟩
    ·exact .inl q
    ·refine .inr ⟨k, c', e, z'.sameBut hs ?_⟩
     rintro rfl
     exact hj (a9J hN e1 (I.ok.inj _ _ _ e hc ▸ hi))
  ·by_cases hcc : c' = c
   ·subst hcc; exact ⟨_, hc'⟩
   ·obtain ⟨w2, z2⟩ := I.cell y c' e
    exact ⟨w2, z2.sameBut hs hcc⟩
  ·obtain ⟨e, n, ne, nf, d⟩ := I.pin p hp
   refine ⟨(hs.2 p.1 ?_).trans e, n, ne, nf, d⟩
   intro q
   rw [q, hoc] at e
   have q' : oc = p.2 := Option.some.inj e
   exact d w' (by rw [← q']; exact hocd)
theorem a6v {M : Model} {A : Around} {E : Value → Shared → Prop} {i : Nat} {x : Str} {v : V} {u : Value} {Q : Unit → Shared → Prop} (I : Inv X pins σ H s) (hN : X.N.Nodup) (hi : X.N[i]? = some x) (hx : Loc X.env.scope x) (r : RelV v u)
  (h : ∀ s', Inv X pins (σ.set i (some v)) H s' → Q () s') (hf : X.fn x = true ∨ X.env.scope.names.lookup x = some .local := by first | exact .inl rfl | exact .inr rfl | assumption) : wpAny M A (storeName X.env x u) Q E s :=
 b1t I hN hi hx r (fun s' I' _ => h s' I') hf
theorem Inv.call' {s' : Shared} {ch : List Addr} (I : Inv X pins σ H s) (ho : s'.os = s.os) (u : Un (frs X.stack) ch H H' s.heap s'.heap) (hok : HOk X.prog X.w H' s'.heap) (hg : AllBare s'.gens)
  (hch : ∀ b ∈ ch, (b ∈ X.ex ∨ X.s₀.heap.objs.size ≤ b) ∧ b ≠ X.env.locals ∧ (∀ x c, X.env.cells.lookup x = some c → c ≠ b) ∧ ∀ p ∈ X.pn ++ pins, p.1 ≠ b) : Inv X pins σ H' s' := by
 obtain ⟨h', g', d', t', o'⟩ := s'
 have e : o' = s.os := ho
 subst e
 exact I.call (g' := g') (t' := t') (d' := d') u hok hg hch
end
noncomputable abbrev XK := Value → Option Addr → Hp → Prop
noncomputable abbrev St := List (Option V)
noncomputable abbrev VK := V → Hp → Prop
noncomputable abbrev TE := St → Hp → VK → Prop
noncomputable abbrev TT := St → Hp → (Bool → Hp → Prop) → Prop
noncomputable abbrev TA := St → Hp → (List V → Hp → Prop) → Prop
structure Ends where
 nx : St → Hp → Prop
 rt : VK
 bk : St → Hp → Prop := fun _ _ => False
 ct : St → Hp → Prop := fun _ _ => False
noncomputable abbrev TS := Ends → St → Hp → Prop
noncomputable def EP (X : Cx) (pins : List (Addr × Obj)) (σ : St) (Q : VK) (u : Value) (s' : Shared) : Prop := ∃ v H', Inv X pins σ H' s' ∧ RelV v u ∧ Q v H'
noncomputable def TP (X : Cx) (pins : List (Addr × Obj)) (σ : St) (Q : Bool → Hp → Prop) (b : Bool) (s' : Shared) : Prop := ∃ H', Inv X pins σ H' s' ∧ Q b H'
noncomputable def AP (X : Cx) (pins : List (Addr × Obj)) (σ : St) (Q : List V → Hp → Prop) (us : List Value) (s' : Shared) : Prop := ∃ vs H', Inv X pins σ H' s' ∧ Vals vs us ∧ Q vs H'
noncomputable def SP (X : Cx) (pins : List (Addr × Obj)) (D : Ends) (f : Flow) (s' : Shared) : Prop :=
 match f with
 | .next => ∃ σ' H', Inv X pins σ' H' s' ∧ D.nx σ' H'
 | .brk => ∃ σ' H', Inv X pins σ' H' s' ∧ D.bk σ' H'
 | .cont => ∃ σ' H', Inv X pins σ' H' s' ∧ D.ct σ' H'
 | .ret u => ∃ v σ' H', Inv X pins σ' H' s' ∧ RelV v u ∧ D.rt v H'
noncomputable def PE (X : Cx) (e : Expr) (t : TE) : Prop :=
 ∀ (pins : List (Addr × Obj)) (s : Shared) (σ : St) (H : Hp) (Q : VK), Inv X pins σ H s → t σ H Q → wpAny (model X.prog X.w) X.A (eval e X.env) (EP X pins σ Q) X.xe s
noncomputable def PT (X : Cx) (e : Expr) (t : TT) : Prop :=
 ∀ (pins : List (Addr × Obj)) (s : Shared) (σ : St) (H : Hp) (Q : Bool → Hp → Prop), Inv X pins σ H s → t σ H Q → wpAny (model X.prog X.w) X.A (isTrue e X.env (eval e X.env)) (TP X pins σ Q) X.xe s
noncomputable def PW (X : Cx) (e : Expr) (t : TT) : Prop :=
 ∀ (whole : Sem Value) (pins : List (Addr × Obj)) (s : Shared) (σ : St) (H : Hp) (Q : Bool → Hp → Prop), Inv X pins σ H s → t σ H Q → wpAny (model X.prog X.w) X.A (isTrue e X.env whole) (TP X pins σ Q) X.xe s
theorem PW.pt {X : Cx} {e : Expr} {t : TT} (h : PW X e t) : PT X e t := h _
noncomputable def PA (X : Cx) (es : List Expr) (t : TA) : Prop :=
 ∀ (pos : Pos) (pins : List (Addr × Obj)) (s : Shared) (σ : St) (H : Hp) (Q : List V → Hp → Prop), Inv X pins σ H s → t σ H Q → wpAny (model X.prog X.w) X.A (spliced (backTo pos (starEach es X.env))) (AP X pins σ Q) X.xe s
noncomputable def PS (X : Cx) (st : Stmt) (t : TS) : Prop :=
 ∀ (pins : List (Addr × Obj)) (s : Shared) (σ : St) (H : Hp) (D : Ends), Inv X pins σ H s → t D σ H → wpAny (model X.prog X.w) X.A (exec st X.env) (SP X pins D) X.xe s
noncomputable def PSs (X : Cx) (st : List Stmt) (t : TS) : Prop :=
 ∀ (pins : List (Addr × Obj)) (s : Shared) (σ : St) (H : Hp) (D : Ends), Inv X pins σ H s → t D σ H → wpAny (model X.prog X.w) X.A (execs st X.env) (SP X pins D) X.xe s
theorem thn {α : Type} {t : Sem α} {Q Q' : α → Shared → Prop} {M : Model} {A : Around} {E : Value → Shared → Prop} {s : Shared} (h : wpAny M A t Q E s) (hQ : ∀ a s, Q a s → Q' a s) : wpAny M A t Q' E s := wpAny_mono h hQ fun _ _ x => x
section
variable {X : Cx}
noncomputable def tVar (i : Nat) : TE := fun σ H Q => ∃ v, σ[i]? = some (some v) ∧ Q v H
noncomputable def tC (v : V) : TE := fun _ H Q => Q v H
theorem b7Q {i : Nat} {x : Str} {pos : Pos} (hN : X.N[i]? = some x) (hv : Vis X.env.scope x) (hd : (x == ("__debug__" : Str)) = false := by decide) (hcd : (x == ("__classdict__" : Str)) = false := by decide) : PE X (.Name x pos) (tVar i) := by
 intro pins s σ H Q I h
 obtain ⟨v, e, h⟩ := h
 obtain ⟨m, hn, hl⟩ := I.loc
 obtain ⟨u, r, l⟩ := hl i x v hN e hv
 have fin : EP X pins σ Q u s := ⟨v, H, I, r, h⟩
 rcases l with ⟨hk, hm⟩ | ⟨hk, c, hc, hcell⟩
 ·exact wpAny_Name (wpAny_loadName_local I.ok.kind hk hn hm fin) hd
 ·rcases hk with hk | hk
  ·exact wpAny_Name (wpAny_loadName_cell I.ok.kind hk hc hcell fin) hd
  ·exact wpAny_Name (wpAny_loadName_free I.ok.kind hk hc hcell fin hcd) hd
theorem b7V {i j pos} : PE X (.Constant (.int i) j pos) (tC (.int i)) := fun _ _ _ H _ I h => wpAny_Constant_int ⟨.int i, H, I.tok _, ⟨_, rfl⟩, h⟩
theorem b9J {b j pos} : PE X (.Constant (.bool b) j pos) (tC (.bl b)) := fun _ _ _ H _ I h => Constant_bool ⟨.bl b, H, I, rfl, h⟩
noncomputable def Gl (X : Cx) (x : Str) : Prop := X.env.kindOf x = some .globalImplicit
theorem b2l {E : Value → Shared → Prop} {pins : List (Addr × Obj)} {s : Shared} {σ : St} {H : Hp} {x : Str} {u : Value} {pos : Pos} {Q : Value → Shared → Prop} (I : Inv X pins σ H s) (hg : Gl X x) (hm : X.mg x = some u) (h : Q u s)
  (hd : (x == ("__debug__" : Str)) = false := by decide) : wpAny (model X.prog X.w) X.A (eval (.Name x pos) X.env) Q E s :=
 Calls.Name_function_global I.ok.kind hg (Calls.loadGlobal_global (by rw [I.ok.glob]; exact I.mod.glob.keeps I.bk) hm h) hd
theorem a3F {E : Value → Shared → Prop} {pins : List (Addr × Obj)} {s : Shared} {σ : St} {H : Hp} {x : Str} {u : Value} {pos : Pos} {Q : Value → Shared → Prop} (I : Inv X pins σ H s) (hg : Gl X x) (hm : X.mg x = none) (hv : bootBuiltins x = some u) (h : Q u s)
  (hn : x ≠ "__name__" := by decide) (hd : (x == ("__debug__" : Str)) = false := by decide) : wpAny (model X.prog X.w) X.A (eval (.Name x pos) X.env) Q E s := by
 obtain ⟨mb, h1, h2⟩ := I.mod.blt
 exact Calls.Name_function_global I.ok.kind hg (Calls.loadGlobal_builtin (by rw [I.ok.glob]; exact I.mod.glob.keeps I.bk) hm (by rw [I.ok.blt]; exact h1.keeps I.bk) ((h2 x hn).trans hv) h) hd
theorem b1N {x : Str} {v : V} {u : Value} {pos : Pos} (hg : Gl X x) (hm : X.mg x = some u) (r : RelV v u) (hd : (x == ("__debug__" : Str)) = false := by decide) : PE X (.Name x pos) (tC v) :=
 fun _ _ _ H _ I h => b2l I hg hm ⟨v, H, I, r, h⟩ hd
theorem b6d {x : Str} {v : V} {u : Value} {pos : Pos} (hg : Gl X x) (hm : X.mg x = none) (hv : bootBuiltins x = some u) (r : RelV v u) (hn : x ≠ "__name__" := by decide) (hd : (x == ("__debug__" : Str)) = false := by decide) : PE X (.Name x pos) (tC v) :=
 fun _ _ _ H _ I h => a3F I hg hm hv ⟨v, H, I, r, h⟩ hn hd
variable {a b : Expr} {ta tb : TE} {pos : Pos}
variable {tA tB' : TT} {rest : List Expr}
noncomputable def tAnd (t u : TT) : TT := fun σ H Q => t σ H fun c H1 => if c = true then u σ H1 Q else Q false H1
noncomputable def tOr (t u : TT) : TT := fun σ H Q => t σ H fun c H1 => if c = true then Q true H1 else u σ H1 Q
noncomputable def tNot (t : TT) : TT := fun σ H Q => t σ H fun c H1 => Q (!c) H1
theorem b5P (ha : PT X a tA) : PW X (.BoolOp .And [a] pos) tA := by
 intro wh pins s σ H Q I h
 refine isTrue_and (thn (ha pins s σ H Q I h) fun c s1 e => ?_)
 cases c with
 | true => exact isTrue_and_nil e
 | false => exact e
theorem b7H (ha : PT X a tA) : PW X (.BoolOp .Or [a] pos) tA := by
 intro wh pins s σ H Q I h
 refine isTrue_or (thn (ha pins s σ H Q I h) fun c s1 e => ?_)
 cases c with
 | false => exact isTrue_or_nil e
 | true => exact e
theorem b7I (ha : PT X a tA) (hb : PW X (.BoolOp .And (b :: rest) pos) tB') : PW X (.BoolOp .And (a :: b :: rest) pos) (tAnd tA tB') := by
 intro wh pins s σ H Q I h
 refine isTrue_and (thn (ha pins s σ H _ I h) fun c s1 ⟨H1, I1, q1⟩ => ?_)
 cases c with
 | true => exact hb wh pins s1 σ H1 Q I1 q1
 | false => exact ⟨H1, I1, q1⟩
theorem b9D (ha : PT X a tA) (hb : PW X (.BoolOp .Or (b :: rest) pos) tB') : PW X (.BoolOp .Or (a :: b :: rest) pos) (tOr tA tB') := by
 intro wh pins s σ H Q I h
 refine isTrue_or (thn (ha pins s σ H _ I h) fun c s1 ⟨H1, I1, q1⟩ => ?_)
 cases c with
 | true => exact ⟨H1, I1, q1⟩
 | false => exact hb wh pins s1 σ H1 Q I1 q1
theorem b7J (ha : PT X a tA) : PT X (.UnaryOp .Not a pos) (tNot tA) := by
 intro pins s σ H Q I h
 exact isTrue_not (ha pins s σ H (fun c H1 => Q (!c) H1) I h)
noncomputable def b9t (ta tb : TE) : TE := fun σ H Q => ta σ H fun x H1 => ∃ c, x = .bl c ∧ if c = true then tb σ H1 Q else Q (.bl false) H1
noncomputable def b9n (ta : TE) : TE := fun σ H Q => ta σ H fun x H1 => ∃ c, x = .bl c ∧ Q (.bl (!c)) H1
theorem b7S {op} {t : TE} (h : PE X a t) : PE X (.BoolOp op [a] pos) t := fun pins s σ H Q I hw => BoolOp_one (h pins s σ H Q I hw)
theorem b7W (ha : PE X a ta) (hb : PE X (.BoolOp .And (b :: rest) pos) tb) : PE X (.BoolOp .And (a :: b :: rest) pos) (b9t ta tb) := by
 intro pins s σ H Q I h
 refine BoolOp_and (thn (ha pins s σ H _ I h) fun v s1 ⟨x, H1, I1, r1, q1⟩ => ?_)
 obtain ⟨c, rfl, q1⟩ := q1
 cases r1
 refine wpAny_truthy_bool ?_
 cases c with
 | true => exact hb pins s1 σ H1 Q I1 q1
 | false => exact ⟨.bl false, H1, I1, rfl, q1⟩
theorem b7T (ha : PE X a ta) : PE X (.UnaryOp .Not a pos) (b9n ta) := by
 intro pins s σ H Q I h
 refine UnaryOp_ (thn (ha pins s σ H _ I h) fun v s1 ⟨x, H1, I1, r1, q1⟩ => ?_)
 obtain ⟨c, rfl, q1⟩ := q1
 cases r1
 exact not_of (wpAny_truthy_bool ⟨.bl (!c), H1, I1, rfl, q1⟩)
noncomputable def tIf (t : TT) (ta tb : TE) : TE := fun σ H Q => t σ H fun c H1 => if c = true then ta σ H1 Q else tb σ H1 Q
theorem b3M {c : Expr} (hc : PT X c tA) (ha : PE X a ta) (hb : PE X b tb) : PE X (.IfExp c a b pos) (tIf tA ta tb) := by
 intro pins s σ H Q I h
 refine wpAny_IfExp (thn (hc pins s σ H _ I h) fun d s1 ⟨H1, I1, q1⟩ => ?_)
 cases d with
 | true => exact ha pins s1 σ H1 Q I1 q1
 | false => exact hb pins s1 σ H1 Q I1 q1
end
noncomputable def SqL (K : PySem.W.Frag) (H : Hp) (a : Addr) (xs : List V) : Prop :=
 Rd H a (.lst xs) ∨
  ∃ (o : Obj) (its : Array Value) (n : Nat), K.lookup a = some o ∧ o.cls = .type "list" ∧ o.dict = none ∧ o.data = .seq its n ∧ its.size ≤ sizeLine ∧ Vals xs its.toList
noncomputable def SqT (K : PySem.W.Frag) (H : Hp) (a : Addr) (xs : List V) : Prop :=
 Rd H a (.tup xs) ∨
  ∃ (o : Obj) (its : Array Value) (n : Nat), K.lookup a = some o ∧ o.cls = .type "tuple" ∧ o.dict = none ∧ o.data = .seq its n ∧ its.size ≤ sizeLine ∧ Vals xs its.toList
noncomputable def absV : Value → Option V
 | .none => some .non
 | .bool b => some (.bl b)
 | .int i _ => some (.int i)
 | .str x _ => some (.str x)
 | .bytes b _ => some (.byt b)
 | .float b _ => some (.flt b)
 | .ref a => some (.ref a)
 | .type n => some (.ty n)
 | _ => none
theorem RelV.abs {x : V} {u : Value} (r : RelV x u) : absV u = some x := by
 cases x with
 | non => cases r; rfl
 | bl _ => cases r; rfl
 | int _ => obtain ⟨t, rfl⟩ := r; rfl
 | str _ => obtain ⟨t, rfl⟩ := r; rfl
 | byt _ => obtain ⟨t, rfl⟩ := r; rfl
 | flt _ => obtain ⟨t, rfl⟩ := r; rfl
 | ref _ => cases r; rfl
 | ty _ => cases r; rfl
theorem RelV.inj {x y : V} {u : Value} (r : RelV x u) (q : RelV y u) : x = y := Option.some.inj (r.abs.symm.trans q.abs)
theorem Vals.inj : ∀ {xs ys : List V} {us : List Value}, Vals xs us → Vals ys us → xs = ys
 | _, _, _, .nil, .nil => rfl
 | _, _, _, .cons r t, .cons r' t' => by rw [r.inj r', Vals.inj t t']
section
variable {X : Cx} {pins : List (Addr × Obj)} {σ : St} {H : Hp} {s : Shared} {a : Addr} {xs ys : List V}
theorem SqL.of {K : PySem.W.Frag} (h : H a = some (.lst xs)) : SqL K H a xs := .inl (.inl h)
theorem SqT.of {K : PySem.W.Frag} (h : H a = some (.tup xs)) : SqT K H a xs := .inl (.inl h)
theorem Inv.list (I : Inv X pins σ H s) (h : SqL X.K H a xs) : ∃ its : List Value, Vals xs its ∧ PlainL s.heap a its.toArray ∧ xs.length ≤ sizeLine := by
 rcases h with h | ⟨o, its, n, hk, hc, hd, hs, hz, r⟩
 ·obtain ⟨z, its, n, r, e⟩ := h.ok I.hok
  exact ⟨its, r, ⟨_, n, e, rfl, rfl, rfl⟩, z⟩
 ·refine ⟨its.toList, r, ⟨o, n, I.kIn a o hk, hc, hd, by simpa using hs⟩, ?_⟩
  have e := r.length
  simp only [Array.length_toList] at e
  lia
theorem Inv.tuple (I : Inv X pins σ H s) (h : SqT X.K H a xs) : ∃ its : List Value, Vals xs its ∧ IsTup s.heap a its.toArray ∧ xs.length ≤ sizeLine := by
 rcases h with h | ⟨o, its, n, hk, hc, hd, hs, hz, r⟩
 ·obtain ⟨z, its, r, p⟩ := h.ok I.hok
  exact ⟨its, r, p.t, z⟩
 ·refine ⟨its.toList, r, ⟨o, I.kIn a o hk, hc, n, by simpa using hs⟩, ?_⟩
  have e := r.length
  simp only [Array.length_toList] at e
  lia
theorem Inv.tuple0 (I : Inv X pins σ H s) (h : SqT X.K H a xs) : ∃ its : List Value, Vals xs its ∧ a2g s.heap a its.toArray ∧ xs.length ≤ sizeLine := by
 rcases h with h | ⟨o, its, n, hk, hc, hd, hs, hz, r⟩
 ·obtain ⟨z, its, r, p⟩ := h.ok I.hok
  exact ⟨its, r, p, z⟩
 ·refine ⟨its.toList, r, ⟨o, I.kIn a o hk, hc, hd, n, by simpa using hs⟩, ?_⟩
  have e := r.length
  simp only [Array.length_toList] at e
  lia
theorem Inv.list_inj (I : Inv X pins σ H s) (h : SqL X.K H a xs) (h' : SqL X.K H a ys) : xs = ys := by
 obtain ⟨its, r, ⟨o, n, e, _, _, d⟩, _⟩ := I.list h
 obtain ⟨its', r', ⟨o', n', e', _, _, d'⟩, _⟩ := I.list h'
 rw [e] at e'; cases e'
 rw [d] at d'
 injection d' with d1 _
 have : its = its' := by simpa using congrArg Array.toList d1
 subst this
 exact r.inj r'
theorem Inv.tuple_inj (I : Inv X pins σ H s) (h : SqT X.K H a xs) (h' : SqT X.K H a ys) : xs = ys := by
 obtain ⟨its, r, ⟨o, e, _, n, d⟩, _⟩ := I.tuple h
 obtain ⟨its', r', ⟨o', e', _, n', d'⟩, _⟩ := I.tuple h'
 rw [e] at e'; cases e'
 rw [d] at d'
 injection d' with d1 _
 have : its = its' := by simpa using congrArg Array.toList d1
 subst this
 exact r.inj r'
end
noncomputable abbrev Cx.wish (X : Cx) (E : Value → Shared → Prop) : Cx := { X with xe := E }
noncomputable abbrev Cx.nox (X : Cx) : Cx := X.wish fun _ _ => False
theorem Cx.Ok.wish {X : Cx} (ok : X.Ok) (E : Value → Shared → Prop) : (X.wish E).Ok :=
 ⟨ok.mod, ok.kind, ok.glob, ok.blt, ok.above, ok.inj, ok.has, ok.cab, ok.hd, ok.frames, ok.stk, ok.exf, ok.bs, ok.bsz, ok.noex, ok.exfs, ok.funs, ok.frf⟩
theorem Cx.Ok.unwish {X : Cx} {E : Value → Shared → Prop} (ok : (X.wish E).Ok) : X.Ok :=
 ⟨ok.mod, ok.kind, ok.glob, ok.blt, ok.above, ok.inj, ok.has, ok.cab, ok.hd, ok.frames, ok.stk, ok.exf, ok.bs, ok.bsz, ok.noex, ok.exfs, ok.funs, ok.frf⟩
section
variable {X : Cx} {pins : List (Addr × Obj)} {σ : St} {H : Hp} {s : Shared} {E : Value → Shared → Prop}
theorem Inv.wish (I : Inv X pins σ H s) (E : Value → Shared → Prop) : Inv (X.wish E) pins σ H s := ⟨I.ok.wish E, I.os, I.bare, I.base, I.loc, I.cell, I.free, I.freeC, I.pin, I.hok, I.len⟩
theorem Inv.unwish (I : Inv (X.wish E) pins σ H s) : Inv X pins σ H s := ⟨I.ok.unwish, I.os, I.bare, I.base, I.loc, I.cell, I.free, I.freeC, I.pin, I.hok, I.len⟩
theorem SP.unwish {D : Ends} {f : Flow} {s' : Shared} (h : SP (X.wish E) pins D f s') : SP X pins D f s' := by
 cases f with
 | next => obtain ⟨σ', H', I, q⟩ := h; exact ⟨σ', H', I.unwish, q⟩
 | brk => obtain ⟨σ', H', I, q⟩ := h; exact ⟨σ', H', I.unwish, q⟩
 | cont => obtain ⟨σ', H', I, q⟩ := h; exact ⟨σ', H', I.unwish, q⟩
 | ret u => obtain ⟨v, σ', H', I, r, q⟩ := h; exact ⟨v, σ', H', I.unwish, r, q⟩
theorem PSs.nox {st : List Stmt} {t : TS} (h : PSs X.nox st t) : PSs X st t := fun pins s σ H D I hw =>
 wpAny_mono (h pins s σ H D (I.wish _) hw) (fun _ _ q => q.unwish) fun _ _ z => False.elim z
end
section
variable {X : Cx} {st : Stmt} {rest : List Stmt} {t u : TS} {e : Expr} {te : TE} {pos : Pos}
noncomputable def b9o : TS := fun D σ H => D.nx σ H
noncomputable def tSeq (t u : TS) : TS := fun D σ H => t { D with nx := u D } σ H
theorem b5U : PSs X [] b9o := fun _ _ σ H _ I h => wpAny_execs_nil ⟨σ, H, I, h⟩
theorem b3I (h1 : PS X st t) (h2 : PSs X rest u) : PSs X (st :: rest) (tSeq t u) := by
 intro pins s σ H D I h
 refine wpAny_execs_cons (thn (h1 pins s σ H { D with nx := u D } I h) fun f s1 q => ?_)
 cases f with
 | next =>
   obtain ⟨σ', H', I', q⟩ := q
   exact h2 pins s1 σ' H' D I' q
 | ret v => exact q
 | brk => exact q
 | cont => exact q
theorem b5T (h1 : PS X st t) : PSs X [st] t := by
 intro pins s σ H D I h
 refine wpAny_execs_cons (thn (h1 pins s σ H D I h) fun f s1 q => ?_)
 cases f with
 | next => exact wpAny_execs_nil q
 | ret v => exact q
 | brk => exact q
 | cont => exact q
theorem Inv.quiet {pins : List (Addr × Obj)} {σ : St} {H : Hp} {s : Shared} (I : Inv X pins σ H s) : interactive X.env = false := by simp [interactive, I.ok.kind]
noncomputable def b9p (te : TE) : TS := fun D σ H => te σ H fun _ H1 => D.nx σ H1
theorem b5V (he : PE X e te) (hs : swapsWith e none pos.line X.env = pure false := by rfl) : PS X (.Expr e pos) (b9p te) := by
 intro pins s σ H D I h
 exact wpAny_Expr_any (thn (he pins s σ H _ I h) fun v s1 ⟨x, H1, I1, r1, q1⟩ => ⟨σ, H1, I1, q1⟩) I.quiet hs
noncomputable def tRet (te : TE) : TS := fun D σ H => te σ H D.rt
theorem b7L (he : PE X e te) : PS X (.Return (some e) pos) (tRet te) := by
 intro pins s σ H D I h
 exact wpAny_Return_some (thn (he pins s σ H _ I h) fun v s1 ⟨x, H1, I1, r1, q1⟩ => ⟨x, σ, H1, I1, r1, q1⟩)
noncomputable def tIfS (c : TT) (t u : TS) : TS := fun D σ H => c σ H fun b H1 => if b = true then t D σ H1 else u D σ H1
theorem b9E {c : Expr} {a b : List Stmt} {tc : TT} (hc : PT X c tc) (ha : PSs X a t) (hb : PSs X b u) : PS X (.If c a b pos) (tIfS tc t u) := by
 intro pins s σ H D I h
 refine wpAny_If (thn (hc pins s σ H _ I h) fun d s1 ⟨H1, I1, q1⟩ => ?_)
 cases d with
 | true => exact ha pins s1 σ H1 D I1 q1
 | false => exact hb pins s1 σ H1 D I1 q1
end
noncomputable abbrev TG := V → St → Hp → (St → Hp → Prop) → Prop
noncomputable abbrev TGs := List V → St → Hp → (St → Hp → Prop) → Prop
noncomputable def PG (X : Cx) (target : Expr) (t : TG) : Prop :=
 ∀ (pins : List (Addr × Obj)) (s : Shared) (σ : St) (H : Hp) (v : V) (u : Value) (Q : St → Hp → Prop), Inv X pins σ H s → RelV v u → t v σ H Q →
   wpAny (model X.prog X.w) X.A (assign target X.env u) (fun _ s' => ∃ σ' H', Inv X pins σ' H' s' ∧ Q σ' H') X.xe s
noncomputable def PGs (X : Cx) (ts : List Expr) (t : TGs) : Prop :=
 ∀ (pins : List (Addr × Obj)) (s : Shared) (σ : St) (H : Hp) (vs : List V) (us : List Value) (Q : St → Hp → Prop), Inv X pins σ H s → Vals vs us → t vs σ H Q →
   wpAny (model X.prog X.w) X.A (assignInOrder ((assignEach ts X.env).map (·.2)) us) (fun _ s' => ∃ σ' H', Inv X pins σ' H' s' ∧ Q σ' H') X.xe s
noncomputable abbrev TSet := V → V → V → Hp → (Hp → Prop) → Prop
noncomputable def PSet (X : Cx) (t : TSet) : Prop :=
 ∀ (pins : List (Addr × Obj)) (s : Shared) (σ : St) (H : Hp) (o i v : V) (ov iv u : Value) (Q : Hp → Prop), Inv X pins σ H s → RelV o ov → RelV i iv → RelV v u → t o i v H Q →
   wpAny (model X.prog X.w) X.A (setItem ov iv u) (fun _ s' => ∃ H', Inv X pins σ H' s' ∧ Q H') X.xe s
noncomputable abbrev TIp := V → V → Hp → VK → Prop
noncomputable def PIp (X : Cx) (op : Operator) (t : TIp) : Prop :=
 ∀ (pins : List (Addr × Obj)) (s : Shared) (σ : St) (H : Hp) (x y : V) (v u : Value) (Q : VK), Inv X pins σ H s → RelV x v → RelV y u → t x y H Q →
   wpAny (model X.prog X.w) X.A (inplaceOp op v u) (EP X pins σ Q) X.xe s
section
variable {X : Cx} {pos : Pos}
noncomputable def a8Z (i : Nat) : TG := fun v σ H Q => Q (σ.set i (some v)) H
theorem a1n {i : Nat} {x : Str} (hN : X.N.Nodup) (hi : X.N[i]? = some x) (hx : Loc X.env.scope x) (hf : X.fn x = true ∨ X.env.scope.names.lookup x = some .local := by first | exact .inl rfl | exact .inr rfl | assumption) : PG X (.Name x pos) (a8Z i) := by
 intro pins s σ H v u Q I r h
 exact wpAny_assign_Name (a6v I hN hi hx r (fun s' I' => ⟨_, H, I', h⟩) hf)
noncomputable def gNil : TGs := fun vs σ H Q => vs = [] ∧ Q σ H
noncomputable def b4l (t : TG) (u : TGs) : TGs := fun vs σ H Q => ∃ v r, vs = v :: r ∧ t v σ H fun σ' H' => u r σ' H' Q
theorem a6I : PGs X [] gNil := by
 intro pins s σ H vs us Q I r h
 obtain ⟨e, h⟩ := h
 subst e
 cases r
 exact assignInOrder_nil ⟨σ, H, I, h⟩
theorem a2P {e : Expr} {es : List Expr} {t : TG} {u : TGs} (h1 : PG X e t) (h2 : PGs X es u)
  (hs : (assignEach (e :: es) X.env).map (·.2) = assign e X.env :: (assignEach es X.env).map (·.2) := by rfl) : PGs X (e :: es) (b4l t u) := by
 intro pins s σ H vs us Q I r h
 obtain ⟨v, vr, e1, h⟩ := h
 subst e1
 cases r with
 | cons r rr =>
   rw [hs]
   refine assignInOrder_cons (thn (h1 pins s σ H _ _ _ I r h) fun _ s1 ⟨σ1, H1, I1, q1⟩ => ?_)
   exact h2 pins s1 σ1 H1 _ _ Q I1 rr q1
noncomputable def gTup (K : PySem.W.Frag) (n : Nat) (t : TGs) : TG := fun v σ H Q => ∃ a xs, v = .ref a ∧ SqT K H a xs ∧ xs.length = n ∧ t xs σ H Q
theorem a9y {es : List Expr} {k : Nat} {t : TGs} {n : Nat} (hc : X.calm = true) (h : PGs X es t)
  (hn : (assignEach es X.env).length = n := by rfl) (hst : (assignEach es X.env).findIdx? (·.1) = none := by rfl) : PG X (.Tuple es k pos) (gTup X.K n t) := by
 intro pins s σ H v u Q I r hw
 obtain ⟨a, xs, e1, hq, hl, hw⟩ := hw
 subst e1
 cases r
 obtain ⟨its, rv, ht, hz⟩ := I.tuple hq
 refine assign_Tuple_tuple (I.ok.hd hc) ht (by simp [hn, ← hl, rv.length]) hst fun h' hx => ?_
 have I1 : Inv X pins σ H { s with heap := h' } := I.kept (t' := s.toks) fun b o e => hx b o (Nat.ne_of_lt (Heap.lt_size e)) e
 exact h pins _ σ H xs _ Q I1 (by simpa using rv) hw
noncomputable def gSub (to ti : TE) (t : TSet) : TG := fun v σ H Q => to σ H fun o H1 => ti σ H1 fun i H2 => t o i v H2 fun H3 => Q σ H3
theorem b7P {o i : Expr} {to ti : TE} {t : TSet} (ho : PE X o to) (hi : PE X i ti) (hs : PSet X t)
  (ha : ∀ v, assign (.Subscript o i pos) X.env v = (do
   let ov ← holding [v] (eval o X.env)
   let iv ← holding [v, ov] (eval i X.env)
   standAt pos
   holding [v, ov, iv] (setItem ov iv v)
   release [v, ov, iv] []) := by intro _; rfl) : PG X (.Subscript o i pos) (gSub to ti t) := by
 intro pins s σ H v u Q I r h
 rw [ha]
 refine wpAny_bind (wpAny_holding (thn (ho pins s σ H _ I h) fun ov s1 ⟨x, H1, I1, r1, q1⟩ => ?_))
 refine wpAny_bind (wpAny_holding (thn (hi pins s1 σ H1 _ I1 q1) fun iv s2 ⟨y, H2, I2, r2, q2⟩ => ?_))
 refine wpAny_bind (wpAny_standAt (wpAny_bind (wpAny_holding (thn (hs pins s2 σ H2 x y v ov iv u _ I2 r1 r2 r q2) fun _ s3 ⟨H3, I3, q3⟩ => ?_))))
 exact wpAny_release ⟨σ, H3, I3, q3⟩
noncomputable def tAsg (te : TE) (g : TG) : TS := fun D σ H => te σ H fun x H1 => g x σ H1 D.nx
theorem b7O {tg e : Expr} {te : TE} {g : TG} (he : PE X e te) (hg : PG X tg g) (hs : swapsWithSole [tg] e pos.line X.env = pure false := by rfl) (hw : swappedStores [tg] e X.env = pure none := by rfl)
  (h1 : (assignEach [tg] X.env).map (·.2) = [assign tg X.env] := by rfl) : PS X (.Assign [tg] e pos) (tAsg te g) := by
 intro pins s σ H D I h
 refine wpAny_Assign_stores (thn (he pins s σ H _ I h) fun v s1 ⟨x, H1, I1, r1, q1⟩ => ?_) hs hw
 rw [h1]
 exact thn (hg pins s1 σ H1 x v _ I1 r1 q1) fun _ s2 q => q
theorem b7K {i : Nat} {x : Str} {e : Expr} {te : TE} {pos' : Pos} (hN : X.N.Nodup) (hi : X.N[i]? = some x) (hx : Loc X.env.scope x) (he : PE X e te) (hs : swapsWith e (some (.Name x pos')) pos.line X.env = pure false := by rfl) (hf : X.fn x = true ∨ X.env.scope.names.lookup x = some .local := by first | exact .inl rfl | exact .inr rfl | assumption) :
  PS X (.Assign [.Name x pos'] e pos) (tAsg te (a8Z i)) := by
 intro pins s σ H D I h
 refine wpAny_Assign_Name (thn (he pins s σ H _ I h) fun v s1 ⟨y, H1, I1, r1, q1⟩ => ?_) hs
 exact a6v I1 hN hi hx r1 (fun s2 I2 => ⟨_, H1, I2, q1⟩) hf
noncomputable def tAug (i : Nat) (te : TE) (ti : TIp) : TS := fun D σ H => ∃ x, σ[i]? = some (some x) ∧ te σ H fun y H1 => ti x y H1 fun z H2 => D.nx (σ.set i (some z)) H2
theorem b7N {i : Nat} {x : Str} {e : Expr} {te : TE} {op : Operator} {ti : TIp} {pos' : Pos} (hN : X.N.Nodup) (hi : X.N[i]? = some x) (hx : Loc X.env.scope x) (he : PE X e te) (ho : PIp X op ti) (hf : X.fn x = true ∨ X.env.scope.names.lookup x = some .local := by first | exact .inl rfl | exact .inr rfl | assumption) :
  PS X (.AugAssign (.Name x pos') op e pos) (tAug i te ti) := by
 intro pins s σ H D I h
 obtain ⟨v, e1, h⟩ := h
 obtain ⟨m, hn, hl⟩ := I.loc
 have vis : Vis X.env.scope x := by rcases hx with k | k; exact .inl k; exact .inr (.inl k)
 obtain ⟨u, r, l⟩ := hl i x v hi e1 vis
 refine wpAny_AugAssign_Name ?_
 have go : wpAny (model X.prog X.w) X.A (eval e X.env) (fun w s₂ => wpAny (model X.prog X.w) X.A (inplaceOp op u w) (fun r s₃ => wpAny (model X.prog X.w) X.A (storeName X.env x r) (fun _ => SP X pins D .next) X.xe s₃) X.xe s₂) X.xe s := by
  refine thn (he pins s σ H _ I h) fun w s1 ⟨y, H1, I1, r1, q1⟩ => ?_
  refine thn (ho pins s1 σ H1 v y u w _ I1 r r1 q1) fun z s2 ⟨zv, H2, I2, r2, q2⟩ => ?_
  exact a6v I2 hN hi hx r2 (fun s3 I3 => ⟨_, H2, I3, q2⟩) hf
 rcases l with ⟨hk, hm⟩ | ⟨hk, c, hc, hcell⟩
 ·exact wpAny_loadName_local I.ok.kind hk hn hm go
 ·rcases hk with hk | hk
  ·exact wpAny_loadName_cell I.ok.kind hk hc hcell go
  ·rcases hx with k | k
   ·have : X.env.scope.names.lookup x = some .free := hk
    rw [k] at this; cases this
   ·have : X.env.scope.names.lookup x = some .free := hk
    rw [k] at this; cases this
noncomputable def ipI (f : Int → Int → Int) : TIp := fun x y H Q => ∃ i j, x = .int i ∧ y = .int j ∧ Q (.int (f i j)) H
theorem b8z : PIp X .Add (ipI fun i j => i + j) := by
 intro pins s σ H x y v u Q I r1 r2 h
 obtain ⟨i, j, e1, e2, q⟩ := h
 subst e1; subst e2
 obtain ⟨t, rfl⟩ := r1
 obtain ⟨t', rfl⟩ := r2
 exact iadd_int ⟨.int _, H, I.tok _, ⟨_, rfl⟩, q⟩
end
section
variable {X : Cx} {pos : Pos}
end
structure It where
 go : Nat → Hp → Prop
 yld : Nat → Hp → V → Hp → Prop
 stop : Nat → Hp → Prop
noncomputable def FpOk (X : Cx) (pins : List (Addr × Obj)) (H : Hp) (b : Addr) : Prop :=
 H b = none ∧ b ≠ X.env.locals ∧ b ∉ X.fs ∧ (b ∈ X.ex ∨ X.s₀.heap.objs.size ≤ b) ∧ (∀ x c, X.env.cells.lookup x = some c → c ≠ b) ∧ ∀ p ∈ X.pn ++ pins, p.1 ≠ b
theorem Inv.fpOk {X : Cx} {pins : List (Addr × Obj)} {σ : St} {H H' : Hp} {s : Shared} {b : Addr} (I : Inv X pins σ H s) (hb : s.heap.objs.size ≤ b) (hn : H' b = none) : FpOk X pins H' b := by
 refine ⟨hn, Nat.ne_of_gt (Nat.lt_of_lt_of_le I.lt hb), I.nofs hb, .inr (Nat.le_trans I.sz hb), fun x c e z => ?_, fun p hp z => ?_⟩
 ·obtain ⟨v, q⟩ := I.cell x c e
  exact absurd (Nat.lt_of_lt_of_le q.lt (by rw [z]; exact hb)) (Nat.lt_irrefl _)
 ·exact absurd (Nat.lt_of_lt_of_le (Heap.lt_size (I.pin p hp).1) (by rw [z]; exact hb)) (Nat.lt_irrefl _)
structure Turn (P : Program) (w : World) (K : PySem.W.Frag) (tg : Expr) (J : It) (fp : List Addr) (it : Addr) (tn : Nat → Heap → Prop) : Prop where
 mem : it ∈ fp
 obj : ∀ i h, tn i h → ∀ b ∈ fp, ∃ o, h.get? b = some o ∧ ∀ v, o.data ≠ .cell v
 keep : ∀ i h h', tn i h → (∀ b ∈ fp, ∀ o, h.get? b = some o → h'.get? b = some o) → tn i h'
 item : ∀ (X : Cx), X.prog = P → X.w = w → X.K = K → X.calm = true → ∀ (i : Nat) (pins : List (Addr × Obj)) (s : Shared) (σ : St) (H : Hp) (E : Value → Shared → Prop), Inv X pins σ H s → (∀ b ∈ fp, FpOk X pins H b) → tn i s.heap → J.go i H →
  wpAny (model P w) X.A (pyNext (.ref it)) (fun r s1 => ∃ u, r = some u ∧
   wpAny (model P w) X.A (letOwnedTupleGo tg (.ref it) u) (fun _ s2 => ∃ x H', Inv X pins σ H' s2 ∧ RelV x u ∧ J.yld i H x H' ∧ tn (i + 1) s2.heap ∧ ∀ b ∈ fp, H' b = none) E s1) E s
 done : ∀ (X : Cx), X.prog = P → X.w = w → X.K = K → X.calm = true → ∀ (i : Nat) (pins : List (Addr × Obj)) (s : Shared) (σ : St) (H : Hp) (E : Value → Shared → Prop), Inv X pins σ H s → (∀ b ∈ fp, FpOk X pins H b) → tn i s.heap → J.stop i H →
  wpAny (model P w) X.A (pyNext (.ref it)) (fun r s1 => r = none ∧ Inv X pins σ H s1) E s
 self : ∀ (A : Around) (i : Nat) (s : Shared) (Q : Value → Shared → Prop) (E : Value → Shared → Prop), tn i s.heap → Q (.ref it) s → wpAny (model P w) A (pyIter (.ref it)) Q E s
noncomputable abbrev TI := St → Hp → (It → Hp → Prop) → Prop
noncomputable def PIE (X : Cx) (pins : List (Addr × Obj)) (σ : St) (tg : Expr) (R : It → Hp → Prop) (itv : Value) (s2 : Shared) : Prop :=
 ∃ (it : Addr) (fp : List Addr) (tn : Nat → Heap → Prop) (J : It) (H' : Hp), itv = .ref it ∧ Inv X pins σ H' s2 ∧ Turn X.prog X.w X.K tg J fp it tn ∧ tn 0 s2.heap ∧ (∀ b ∈ fp, FpOk X pins H' b) ∧ R J H'
noncomputable def PI (X : Cx) (tg iter : Expr) (wi : TI) : Prop :=
 ∀ (pins : List (Addr × Obj)) (s : Shared) (σ : St) (H : Hp) (R : It → Hp → Prop), Inv X pins σ H s → wi σ H R →
   wpAny (model X.prog X.w) X.A (eval iter X.env) (fun v s1 => wpAny (model X.prog X.w) X.A (pyIter v) (PIE X pins σ tg R) X.xe s1) X.xe s
theorem b2C {M : Model} {A : Around} {E : Value → Shared → Prop} {s : Shared} {tg : Expr} {it : Addr} {u : Value} {o : Obj} {n : String} {vs : Array Value} {Q : Unit → Shared → Prop} (ho : s.heap.get? it = some o) (hc : o.cls = .type n) (hd : o.data = .fields vs)
  (hn : ["enumerate", "zip", "dict_itemiterator", "dict_reverseitemiterator", "odict_iterator", "itertools.zip_longest", "itertools.pairwise"].contains n = false) (hQ : Q () s) : wpAny M A (letOwnedTupleGo tg (.ref it) u) Q E s := by
 unfold letOwnedTupleGo
 cases tg <;> first
  | exact wpAny_pure hQ
  | (cases u <;> first
    | exact wpAny_pure hQ
    | (refine wpAny_bind (wpAny_load ho ?_)
       rw [hc, hd]
       show wpAny M A (if (["enumerate", "zip", "dict_itemiterator", "dict_reverseitemiterator", "odict_iterator", "itertools.zip_longest", "itertools.pairwise"].contains n && vs[0]? == some (rawInt _)) = true then _ else _) Q E s
       rw [if_neg (by intro h; rw [hn, Bool.false_and] at h; cases h)]
       exact wpAny_pure hQ))
noncomputable def Itl (K : PySem.W.Frag) (a : Addr) : It :=
 ⟨fun i H => ∃ xs x, SqL K H a xs ∧ xs[i]? = some x, fun i H x H' => H' = H ∧ ∀ xs, SqL K H a xs → xs[i]? = some x, fun i H => ∃ xs, SqL K H a xs ∧ xs.length ≤ i⟩
noncomputable def Itt (K : PySem.W.Frag) (a : Addr) : It :=
 ⟨fun i H => ∃ xs x, SqT K H a xs ∧ xs[i]? = some x, fun i H x H' => H' = H ∧ ∀ xs, SqT K H a xs → xs[i]? = some x, fun i H => ∃ xs, SqT K H a xs ∧ xs.length ≤ i⟩
noncomputable def Itr (lo : Int) (n : Nat) : It := ⟨fun i _ => i < n, fun i H x H' => H' = H ∧ x = .int (lo + i), fun i _ => n ≤ i⟩
theorem b1h {P : Program} {w : World} {K : PySem.W.Frag} {tg : Expr} (a it : Addr) : Turn P w K tg (Itl K a) [it] it (fun i h => h.IsListIter it a i) where
 mem := by simp
 obj := fun i h st b hb => by
  have e : b = it := by simpa using hb
  subst e
  obtain ⟨o, e, c, d⟩ := st
  exact ⟨o, e, fun v z => by rw [d] at z; cases z⟩
 keep := fun i h h' st k => st.at fun o e => k it (by simp) o e
 item := by
  intro X hP hw hK hc i pins s σ H E I hf st hg
  subst hP hw hK
  obtain ⟨xs, x, hq, hx⟩ := hg
  obtain ⟨its, rv, p, hz⟩ := I.list hq
  obtain ⟨u, hu, ru⟩ := rv.get hx
  obtain ⟨f0, f1, f2, f3, f4, f5⟩ := hf it (by simp)
  refine wpAny_pyNext_list_item st p.isList (x := u) (by simpa using hu) fun h' st' sb => ?_
  have I1 : Inv X pins σ H { s with heap := h' } := I.turned (t' := s.toks) (fun b o hb e => (sb.2 b hb).trans e) f0 f1 f3 f4 f5
  obtain ⟨o, e, c, d⟩ := id st'
  exact ⟨u, rfl, b2C (s := { s with heap := h' }) e c d (by decide) ⟨x, H, I1, ru, ⟨rfl, fun ys hy => by rw [I.list_inj hy hq]; exact hx⟩, st', fun b hb => (hf b hb).1⟩⟩
 done := by
  intro X hP hw hK hc i pins s σ H E I hf st hg
  subst hP hw hK
  obtain ⟨xs, hq, hx⟩ := hg
  obtain ⟨its, rv, p, hz⟩ := I.list hq
  obtain ⟨f0, f1, f2, f3, f4, f5⟩ := hf it (by simp)
  have hl := rv.length
  exact wpAny_pyNext_list_end (I.ok.hd hc) st p.isList (by simp; lia) fun h' eb => ⟨rfl, I.turned (t' := s.toks) (fun b o hb e => eb b o hb e) f0 f1 f3 f4 f5⟩
 self := fun _ _ _ _ _ st h => wpAny_pyIter_listiter st h
theorem b0m {P : Program} {w : World} {K : PySem.W.Frag} {tg : Expr} (a it : Addr) : Turn P w K tg (Itt K a) [it] it (fun i h => h.IsTupleIter it a i) where
 mem := by simp
 obj := fun i h st b hb => by
  have e : b = it := by simpa using hb
  subst e
  obtain ⟨o, e, c, d⟩ := st
  exact ⟨o, e, fun v z => by rw [d] at z; cases z⟩
 keep := fun i h h' st k => st.at fun o e => k it (by simp) o e
 item := by
  intro X hP hw hK hc i pins s σ H E I hf st hg
  subst hP hw hK
  obtain ⟨xs, x, hq, hx⟩ := hg
  obtain ⟨its, rv, p, hz⟩ := I.tuple hq
  obtain ⟨u, hu, ru⟩ := rv.get hx
  obtain ⟨f0, f1, f2, f3, f4, f5⟩ := hf it (by simp)
  refine wpAny_pyNext_tuple_item st (show s.heap.IsTuple a its.toArray from p) (x := u) (by simpa using hu) fun h' st' sb => ?_
  have I1 : Inv X pins σ H { s with heap := h' } := I.turned (t' := s.toks) (fun b o hb e => (sb.2 b hb).trans e) f0 f1 f3 f4 f5
  obtain ⟨o, e, c, d⟩ := id st'
  exact ⟨u, rfl, b2C (s := { s with heap := h' }) e c d (by decide) ⟨x, H, I1, ru, ⟨rfl, fun ys hy => by rw [I.tuple_inj hy hq]; exact hx⟩, st', fun b hb => (hf b hb).1⟩⟩
 done := by
  intro X hP hw hK hc i pins s σ H E I hf st hg
  subst hP hw hK
  obtain ⟨xs, hq, hx⟩ := hg
  obtain ⟨its, rv, p, hz⟩ := I.tuple hq
  obtain ⟨f0, f1, f2, f3, f4, f5⟩ := hf it (by simp)
  have hl := rv.length
  exact wpAny_pyNext_tuple_end (I.ok.hd hc) st (show s.heap.IsTuple a its.toArray from p) (by simp; lia) fun h' eb => ⟨rfl, I.turned (t' := s.toks) (fun b o hb e => eb b o hb e) f0 f1 f3 f4 f5⟩
 self := fun _ _ _ _ _ st h => wpAny_pyIter_tupleiter st h
theorem b0n {P : Program} {w : World} {K : PySem.W.Frag} {tg : Expr} (it : Addr) (lo : Int) (n : Nat) : Turn P w K tg (Itr lo n) [it] it (fun i h => IsRangeIter h it (lo + (i : Nat) * 1) ((n : Int) - (i : Nat)) 1) where
 mem := by simp
 obj := fun i h st b hb => by
  have e : b = it := by simpa using hb
  subst e
  exact ⟨_, st, fun v z => by
   have z' : Data.fields _ = Data.cell v := z
   cases z'⟩
 keep := fun i h h' st k => k it (by simp) _ st
 item := by
  intro X hP hw hK hc i pins s σ H E I hf st hg
  subst hP hw hK
  obtain ⟨f0, f1, f2, f3, f4, f5⟩ := hf it (by simp)
  have W := Walks.range (prog := X.prog) (w := X.w) (I.ok.hd hc) it lo 1 n
  refine W.item i s _ _ hg st fun v h' tk hv st' kk => ?_
  obtain ⟨t, rfl⟩ := hv
  have I1 : Inv X pins σ H { s with heap := h', toks := tk } := I.turned (fun b o hb e => kk b o (by simpa using hb) e) f0 f1 f3 f4 f5
  refine ⟨_, rfl, b2C (s := { s with heap := h', toks := tk }) (n := "range_iterator") st' rfl rfl (by decide) ⟨.int (lo + i), H, I1, ⟨t, ?_⟩, ⟨rfl, rfl⟩, st', fun b hb => (hf b hb).1⟩⟩
  rw [Int.mul_one]
 done := by
  intro X hP hw hK hc i pins s σ H E I hf st hg
  subst hP hw hK
  obtain ⟨f0, f1, f2, f3, f4, f5⟩ := hf it (by simp)
  exact wpAny_pyNext_range_end (I.ok.hd hc) st (by have : n ≤ i := hg; lia) fun h' eb => ⟨rfl, I.turned (t' := s.toks) (fun b o hb e => eb b o hb e) f0 f1 f3 f4 f5⟩
 self := fun _ _ _ _ _ st h => wpAny_pyIter_rangeiter st h
section
variable {X : Cx} {tg : Expr}
theorem b3D {pins : List (Addr × Obj)} {σ : St} {H : Hp} {s : Shared} {R : It → Hp → Prop} {E : Value → Shared → Prop} {lo hi : Int} {t u v : Tok} {tk : Nat} (I : Inv X pins σ H s) (h1 : -(2 ^ 62) ≤ lo) (h2 : lo < 2 ^ 62) (h3 : -(2 ^ 62) ≤ hi) (h4 : hi < 2 ^ 62)
  (q : R (Itr lo (hi - lo).toNat) H) : wpAny (model X.prog X.w) X.A (pyIter (.ref s.heap.objs.size)) (PIE X pins σ tg R) E { s with heap := s.heap.push { cls := .type "range", data := .fields #[.int lo t, .int hi u, .int 1 v] }, toks := tk } := by
 refine wpAny_pyIter_range (IsRange.new ..) (small_one h1 h2 h3 h4) ?_
 have I1 : Inv X pins σ H { s with heap := s.heap.push { cls := .type "range", data := .fields #[.int lo t, .int hi u, .int 1 v] }, toks := tk } := I.kept fun b o e => Heap.get?_push_of_some _ e
 refine ⟨(s.heap.push { cls := .type "range", data := .fields #[.int lo t, .int hi u, .int 1 v] }).objs.size, [(s.heap.push { cls := .type "range", data := .fields #[.int lo t, .int hi u, .int 1 v] }).objs.size], _, _, H, rfl,
  I1.kept (t' := tk) fun b o e => Heap.get?_push_of_some _ e, b0n _ lo (hi - lo).toNat, ?_, fun b hb => ?_, q⟩
 ·have e1 : lo + ((0 : Nat) : Int) * 1 = lo := by simp
  have e2 : (((hi - lo).toNat : Nat) : Int) - ((0 : Nat) : Int) = Builtin.Range.rangeSize lo hi 1 := by rw [rangeSize_one]; split <;> lia
  show IsRangeIter _ _ (lo + ((0 : Nat) : Int) * 1) ((((hi - lo).toNat : Nat) : Int) - ((0 : Nat) : Int)) 1
  rw [e1, e2]
  exact Heap.get?_push_size _ rfl
 ·have e : b = (s.heap.push { cls := .type "range", data := .fields #[.int lo t, .int hi u, .int 1 v] }).objs.size := by simpa using hb
  subst e
  exact I1.fpOk (Nat.le_refl _) (I1.hok.fresh (Nat.le_refl _))
noncomputable def b9U (ta : TA) : TI := fun σ H R => ta σ H fun vs H1 => ∃ j : Int, vs = [.int j] ∧ -(2 ^ 62) ≤ j ∧ j < 2 ^ 62 ∧ R (Itr 0 j.toNat) H1
theorem b1M {a : Expr} {ta : TA} {p pos : Pos} (hg : Gl X "range") (hm : X.mg "range" = none) (ha : PA X [a] ta) (hs : starEach [a] X.env = [(false, eval a X.env)] := by rfl) : PI X tg (.Call (.Name "range" p) [a] [] pos) (b9U ta) := by
 intro pins s σ H R I h
 refine Call_ (a3F I hg hm boot_range (PyProof.Rows.callWith_type1 (thn (ha pos pins s σ H _ I h) fun us s1 ⟨vs, H1, I1, r1, q1⟩ => ?_) hs rfl))
 obtain ⟨j, e, q1, q2, q⟩ := q1
 subst e
 cases r1 with
 | cons r rr =>
   cases rr
   obtain ⟨t, rfl⟩ := r
   exact call_range_1 (b3D I1 (by lia) (by lia) q1 q2 (by simpa using q))
noncomputable def tFor (wi : TI) (g : TG) (tb : TS) : TS := fun D σ H => wi σ H fun J H1 => ∃ W : Nat → Nat → St → Hp → Prop, (∃ m, W 0 m σ H1) ∧ ∀ i m σ H, W i m σ H →
 (J.stop i H ∧ D.nx σ H) ∨ (J.go i H ∧ ∃ N : St → Hp → Prop, (∀ σ' H', N σ' H' → ∃ m', m' < m ∧ W (i + 1) m' σ' H') ∧ ∀ x H', J.yld i H x H' → g x σ H' fun σ2 H2 => tb { D with nx := N, ct := N, bk := D.nx } σ2 H2)
noncomputable def a5X (fp : List Addr) (h : Heap) : List (Addr × Obj) := fp.filterMap fun b => (h.get? b).map fun o => (b, o)
theorem a3s {fp : List Addr} {h : Heap} {b : Addr} {o : Obj} (hb : b ∈ fp) (e : h.get? b = some o) : (b, o) ∈ a5X fp h := List.mem_filterMap.mpr ⟨b, hb, by rw [e]; rfl⟩
theorem b1X {fp : List Addr} {h : Heap} {p : Addr × Obj} (hp : p ∈ a5X fp h) : p.1 ∈ fp ∧ h.get? p.1 = some p.2 := by
 obtain ⟨b, hb, e⟩ := List.mem_filterMap.mp hp
 cases q : h.get? b with
 | none => rw [q] at e; cases e
 | some o =>
   rw [q] at e
   have e' : (b, o) = p := Option.some.inj e
   subst e'
   exact ⟨hb, q⟩
theorem Inv.pinned {pins : List (Addr × Obj)} {σ : St} {H : Hp} {s : Shared} {fp : List Addr} (I : Inv X pins σ H s) (hf : ∀ b ∈ fp, FpOk X pins H b) (ho : ∀ b ∈ fp, ∃ o, s.heap.get? b = some o ∧ ∀ v, o.data ≠ .cell v) : Inv X (pins ++ a5X fp s.heap) σ H s :=
 I.pins_of fun p hp => (List.mem_append.mp hp).elim (fun z => I.pin p (List.mem_append_right _ z)) fun z => by
  obtain ⟨hb, e⟩ := b1X z
  obtain ⟨f0, f1, f2, _⟩ := hf p.1 hb
  obtain ⟨o, e', d⟩ := ho p.1 hb
  rw [e] at e'; cases e'
  exact ⟨e, f0, f1, f2, d⟩
theorem Inv.unpinned {pins pl : List (Addr × Obj)} {σ : St} {H : Hp} {s : Shared} (I : Inv X (pins ++ pl) σ H s) : Inv X pins σ H s := I.pins_of fun p hp => I.pin p (List.mem_append_right _ (List.mem_append_left _ hp))
theorem b7M {iter : Expr} {body : List Stmt} {wi : TI} {g : TG} {tb : TS} {pos : Pos} (hp : PassesOwn (model X.prog X.w) X.A X.env X.xe) (hc : X.calm = true) (hi : PI X tg iter wi) (hg : PG X tg g) (hb : PSs X body tb)
  (hs : ∀ x, foldedSetIterable iter X.env x = pure x := by intro _; rfl) : PS X (.For tg iter body [] pos) (tFor wi g tb) := by
 intro pins s σ H D I h
 refine wpAny_For (thn (hi pins s σ H _ I h) fun v s1 h1 => thn h1 fun itv s2 h2 => ?_) hs
 obtain ⟨it, fp, tn, J, H2, e, I2, T, st2, f2, W, ⟨m0, w0⟩, turn⟩ := h2
 subst e
 -- what stays true of the iterator's objects through the loop
 have stat : ∀ {H' : Hp}, (∀ b ∈ fp, H' b = none) → ∀ b ∈ fp, FpOk X pins H' b := fun hn b hb => ⟨hn b hb, (f2 b hb).2⟩
 refine codeAny_forLoop_any (fun n s' => ∃ i σ' H', Inv X pins σ' H' s' ∧ tn i s'.heap ∧ (∀ b ∈ fp, H' b = none) ∧ W i n σ' H') ?_ m0 ⟨0, σ, H2, I2, st2, fun b hb => (f2 b hb).1, w0⟩
 rintro n s3 ⟨i, σ3, H3, I3, st3, fr3, w3⟩
 rcases turn i n σ3 H3 w3 with ⟨stop, qn⟩ | ⟨go, N, hN, step⟩
 ·refine wpAny_passesOwn hp (thn (T.done X rfl rfl rfl hc i pins s3 σ3 H3 X.xe I3 (stat fr3) st3 stop) fun r s4 ⟨hr, I4⟩ => ?_)
  subst hr
  exact wpAny_execs_nil ⟨σ3, H3, I4, qn⟩
 ·refine wpAny_passesOwn hp (thn (T.item X rfl rfl rfl hc i pins s3 σ3 H3 X.xe I3 (stat fr3) st3 go) fun r s4 ⟨u, hr, h4⟩ => ?_)
  subst hr
  refine wpAny_passesOwn hp (thn h4 fun _ s5 ⟨x, H5, I5, r5, y5, st5, fr5⟩ => ?_)
  have I5' := I5.pinned (stat fr5) (T.obj _ _ st5)
  refine wpAny_passesOwn hp (thn (hg _ s5 σ3 H5 x u _ I5' r5 (step x H5 y5)) fun _ s6 ⟨σ6, H6, I6, q6⟩ => ?_)
  refine wpAny_passesOwn hp (thn (hb _ s6 σ6 H6 _ I6 q6) fun f s7 q7 => ?_)
  have again : ∀ {σ7 : St} {H7 : Hp}, Inv X (pins ++ a5X fp s5.heap) σ7 H7 s7 → N σ7 H7 → ∃ m, m < n ∧ ∃ i σ' H', Inv X pins σ' H' s7 ∧ tn i s7.heap ∧ (∀ b ∈ fp, H' b = none) ∧ W i m σ' H' := fun {σ7 H7} I7 n7 => by
   obtain ⟨m', hm, w7⟩ := hN σ7 H7 n7
   refine ⟨m', hm, i + 1, σ7, H7, I7.unpinned, T.keep _ _ _ st5 fun b hb o e => (I7.pin (b, o) (List.mem_append_right _ (List.mem_append_right _ (a3s hb e)))).1, fun b hb => ?_, w7⟩
   obtain ⟨o, e, d⟩ := T.obj _ _ st5 b hb
   exact (I7.pin (b, o) (List.mem_append_right _ (List.mem_append_right _ (a3s hb e)))).2.1
  cases f with
  | next => obtain ⟨σ7, H7, I7, n7⟩ := q7; exact again I7 n7
  | cont => obtain ⟨σ7, H7, I7, n7⟩ := q7; exact again I7 n7
  | brk => obtain ⟨σ7, H7, I7, q7⟩ := q7; exact ⟨σ7, H7, I7.unpinned, q7⟩
  | ret v => obtain ⟨x7, σ7, H7, I7, r7, q7⟩ := q7; exact ⟨x7, σ7, H7, I7.unpinned, r7, q7⟩
end
noncomputable abbrev R2 := V → V → Hp → VK → Prop
noncomputable def OpR (X : Cx) (f : Value → Value → Sem Value) (r : R2) : Prop :=
 ∀ (pins : List (Addr × Obj)) (s : Shared) (σ : St) (H : Hp) (x y : V) (v u : Value) (Q : VK), Inv X pins σ H s → RelV x v → RelV y u → r x y H Q →
   wpAny (model X.prog X.w) X.A (f v u) (EP X pins σ Q) X.xe s
noncomputable def UnR (X : Cx) (f : Value → Sem Value) (r : V → Hp → VK → Prop) : Prop :=
 ∀ (pins : List (Addr × Obj)) (s : Shared) (σ : St) (H : Hp) (x : V) (v : Value) (Q : VK), Inv X pins σ H s → RelV x v → r x H Q →
   wpAny (model X.prog X.w) X.A (f v) (EP X pins σ Q) X.xe s
noncomputable def a4T (X : Cx) (f : Value) (r : List V → Hp → VK → Prop) : Prop :=
 ∀ (pins : List (Addr × Obj)) (s : Shared) (σ : St) (H : Hp) (xs : List V) (us : List Value) (Q : VK), Inv X pins σ H s → Vals xs us → r xs H Q →
   wpAny (model X.prog X.w) X.A (call f us) (EP X pins σ Q) X.xe s
noncomputable def TruR (X : Cx) (r : V → Hp → (Bool → Hp → Prop) → Prop) : Prop :=
 ∀ (pins : List (Addr × Obj)) (s : Shared) (σ : St) (H : Hp) (x : V) (v : Value) (Q : Bool → Hp → Prop), Inv X pins σ H s → RelV x v → r x H Q →
   wpAny (model X.prog X.w) X.A (truthy v) (TP X pins σ Q) X.xe s
noncomputable def tOp (r : R2) (ta tb : TE) : TE := fun σ H Q => ta σ H fun x H1 => tb σ H1 fun y H2 => r x y H2 Q
noncomputable def tUn (r : V → Hp → VK → Prop) (ta : TE) : TE := fun σ H Q => ta σ H fun x H1 => r x H1 Q
noncomputable def rI (C : Int → Int → Prop) (g : Int → Int → V) : R2 := fun x y H Q => ∃ i j, x = .int i ∧ y = .int j ∧ C i j ∧ Q (g i j) H
noncomputable def rI0 (g : Int → Int → V) : R2 := fun x y H Q => ∃ i j, x = .int i ∧ y = .int j ∧ Q (g i j) H
noncomputable def rU (g : Int → V) : V → Hp → VK → Prop := fun x H Q => ∃ i, x = .int i ∧ Q (g i) H
section
variable {X : Cx} {a b c : Expr} {ta tb tc : TE} {pos : Pos}
theorem binT (ha : PE X a ta) (hb : PE X b tb) {pins : List (Addr × Obj)} {s : Shared} {σ : St} {H : Hp} {R : V → V → Hp → Prop} (I : Inv X pins σ H s)
  (h : ta σ H fun x H1 => tb σ H1 fun y H2 => R x y H2) {Q : Value → Shared → Prop} {f : Value → Value → Sem Value}
  (hf : ∀ v u s2 x y H2, Inv X pins σ H2 s2 → RelV x v → RelV y u → R x y H2 → wpAny (model X.prog X.w) X.A (f v u) Q X.xe s2) :
  wpAny (model X.prog X.w) X.A (eval a X.env) (fun v s₁ => wpAny (model X.prog X.w) X.A (eval b X.env) (fun u s₂ => wpAny (model X.prog X.w) X.A (f v u) Q X.xe s₂) X.xe s₁) X.xe s := by
 refine thn (ha pins s σ H _ I h) fun v s1 ⟨x, H1, I1, r1, q1⟩ => ?_
 refine thn (hb pins s1 σ H1 _ I1 q1) fun u s2 ⟨y, H2, I2, r2, q2⟩ => ?_
 exact hf v u s2 x y H2 I2 r1 r2 q2
theorem b9G {op : Operator} {r : R2} (ho : OpR X (binaryOp op) r) (ha : PE X a ta) (hb : PE X b tb) : PE X (.BinOp a op b pos) (tOp r ta tb) := by
 intro pins s σ H Q I h
 exact wpAny_BinOp (binT ha hb I h fun v u s2 x y H2 I2 rx ry q => ho pins s2 σ H2 x y v u Q I2 rx ry q)
theorem b9F {op : UnaryOp} {r : V → Hp → VK → Prop} (ho : UnR X (unaryOp op) r) (ha : PE X a ta) : PE X (.UnaryOp op a pos) (tUn r ta) := by
 intro pins s σ H Q I h
 exact UnaryOp_ (thn (ha pins s σ H _ I h) fun v s1 ⟨x, H1, I1, r1, q1⟩ => ho pins s1 σ H1 x v Q I1 r1 q1)
theorem opI {f : Value → Value → Sem Value} {C : Int → Int → Prop} {g : Int → Int → Int}
  (rule : ∀ (i j : Int) (t u : Tok) (s : Shared) (Q : Value → Shared → Prop) (E : Value → Shared → Prop), C i j → Q (.int (g i j) s.toks) { s with toks := s.toks + 1 } → wpAny (model X.prog X.w) X.A (f (.int i t) (.int j u)) Q E s) :
  OpR X f (rI C fun i j => .int (g i j)) := by
 intro pins s σ H x y v u Q I rx ry h
 obtain ⟨i, j, rfl, rfl, hc, q⟩ := h
 obtain ⟨t, rfl⟩ := rx
 obtain ⟨t', rfl⟩ := ry
 exact rule i j t t' s _ _ hc ⟨.int (g i j), H, I.tok _, ⟨_, rfl⟩, q⟩
theorem opI0 {f : Value → Value → Sem Value} {g : Int → Int → Int}
  (rule : ∀ (i j : Int) (t u : Tok) (s : Shared) (Q : Value → Shared → Prop) (E : Value → Shared → Prop), Q (.int (g i j) s.toks) { s with toks := s.toks + 1 } → wpAny (model X.prog X.w) X.A (f (.int i t) (.int j u)) Q E s) :
  OpR X f (rI0 fun i j => .int (g i j)) := by
 intro pins s σ H x y v u Q I rx ry h
 obtain ⟨i, j, rfl, rfl, q⟩ := h
 obtain ⟨t, rfl⟩ := rx
 obtain ⟨t', rfl⟩ := ry
 exact rule i j t t' s _ _ ⟨.int (g i j), H, I.tok _, ⟨_, rfl⟩, q⟩
theorem opB0 {f : Value → Value → Sem Value} {g : Int → Int → Bool}
  (rule : ∀ (i j : Int) (t u : Tok) (s : Shared) (Q : Value → Shared → Prop) (E : Value → Shared → Prop), Q (.bool (g i j)) s → wpAny (model X.prog X.w) X.A (f (.int i t) (.int j u)) Q E s) :
  OpR X f (rI0 fun i j => .bl (g i j)) := by
 intro pins s σ H x y v u Q I rx ry h
 obtain ⟨i, j, rfl, rfl, q⟩ := h
 obtain ⟨t, rfl⟩ := rx
 obtain ⟨t', rfl⟩ := ry
 exact rule i j t t' s _ _ ⟨.bl (g i j), H, I, rfl, q⟩
noncomputable def CPow (i j : Int) : Prop := 0 ≤ j ∧ j ≤ 1000000 ∧ i.natAbs < 2 ^ 64
noncomputable def CMul (i j : Int) : Prop := (-(2 ^ 64) < i ∧ i < 2 ^ 64) ∨ (-(2 ^ 64) < j ∧ j < 2 ^ 64)
theorem CMul.ok {i j : Int} (h : CMul i j) : IntMulOk i j := by
 rcases h with ⟨h1, h2⟩ | ⟨h1, h2⟩
 ·exact .of_left (intBits_le_64 h1 h2)
 ·exact .of_right (intBits_le_64 h1 h2)
theorem b8f : OpR X (binaryOp .Add) (rI0 fun i j => .int (i + j)) := opI0 fun _ _ _ _ _ _ _ q => add_int q
theorem b7Z : OpR X (binaryOp .Sub) (rI0 fun i j => .int (i - j)) := opI0 fun _ _ _ _ _ _ _ q => sub_int q
theorem b8c : OpR X (binaryOp .Mult) (rI CMul fun i j => .int (i * j)) := opI fun _ _ _ _ _ _ _ hc q => mul_int q hc.ok
theorem b8d : OpR X (binaryOp .Mod) (rI (fun _ j => 0 < j) fun i j => .int (i % j)) := opI fun i j _ _ _ _ _ hc q => by
 have h1 : (0 : Int) < j := hc
 exact mod_int' (by lia) (by rw [Int.fmod_eq_emod_of_nonneg i (by lia)]; exact q)
theorem b8b : OpR X (binaryOp .Pow) (rI CPow fun i j => .int (i ^ j.toNat)) := opI fun _ _ _ _ _ _ _ hc q => pow_int_small hc.1 hc.2.1 hc.2.2 q
theorem unI {f : Value → Sem Value} {g : Int → Int}
  (rule : ∀ (i : Int) (t : Tok) (s : Shared) (Q : Value → Shared → Prop) (E : Value → Shared → Prop), Q (.int (g i) s.toks) { s with toks := s.toks + 1 } → wpAny (model X.prog X.w) X.A (f (.int i t)) Q E s) :
  UnR X f (rU fun i => .int (g i)) := by
 intro pins s σ H x v Q I rx h
 obtain ⟨i, rfl, q⟩ := h
 obtain ⟨t, rfl⟩ := rx
 exact rule i t s _ _ ⟨.int (g i), H, I.tok _, ⟨_, rfl⟩, q⟩
theorem b7a : UnR X (unaryOp .USub) (rU fun i => .int (-i)) := unI fun _ _ _ _ _ q => neg_int q
end
section
variable {X : Cx} {a b c : Expr} {ta tb tc : TE} {pos : Pos}
theorem b9L : OpR X (compareOp .Lt) (rI0 fun i j => .bl (decide (i < j))) := opB0 fun _ _ _ _ _ _ _ q => lt_int q
theorem b9M : OpR X (compareOp .LtE) (rI0 fun i j => .bl (decide (i ≤ j))) := opB0 fun _ _ _ _ _ _ _ q => le_int q
theorem b9N : OpR X (compareOp .Gt) (rI0 fun i j => .bl (decide (j < i))) := opB0 fun _ _ _ _ _ _ _ q => gt_int q
theorem b9O : OpR X (compareOp .GtE) (rI0 fun i j => .bl (decide (j ≤ i))) := opB0 fun _ _ _ _ _ _ _ q => ge_int q
theorem a1r (b : Expr) {op : CmpOp} (h : op ≠ .In := by decide) (h2 : op ≠ .NotIn := by decide) : behindInMarks op b = false := by
 have e1 : (op == CmpOp.In) = false := by cases op <;> first | rfl | exact absurd rfl h
 have e2 : (op == CmpOp.NotIn) = false := by cases op <;> first | rfl | exact absurd rfl h2
 cases b <;> simp [behindInMarks, e1, e2]
theorem b6b {op : CmpOp} {r : R2} (ho : OpR X (compareOp op) r) (ha : PE X a ta) (hb : PE X b tb) (hm : behindInMarks op b = false) : PE X (.Compare a [op] [b] pos) (tOp r ta tb) := by
 intro pins s σ H Q I h
 exact wpAny_Compare1 (binT ha hb I h fun v u s2 x y H2 I2 rx ry q => ho pins s2 σ H2 x y v u Q I2 rx ry q) hm
noncomputable def b7f (t : TE) : TT := fun σ H Q => t σ H fun x H' => ∃ k, x = .bl k ∧ Q k H'
theorem b5S {op : CmpOp} {r : R2} (ho : OpR X (compareOp op) r) (ha : PE X a ta) (hb : PE X b tb) (hm : behindInMarks op b = false) : PT X (.Compare a [op] [b] pos) (b7f (tOp r ta tb)) := by
 intro pins s σ H Q I h
 refine wpAny_isTrue_Compare1 (thn (ha pins s σ H _ I h) fun v s1 ⟨x, H1, I1, r1, q1⟩ => thn (hb pins s1 σ H1 _ I1 q1) fun u s2 ⟨y, H2, I2, r2, q2⟩ =>
  thn (ho pins s2 σ H2 x y v u _ I2 r1 r2 q2) fun c s3 ⟨z, H3, I3, r3, k, e, q3⟩ => ?_) hm
 subst e
 cases r3
 exact wpAny_truthy_bool ⟨H3, I3, q3⟩
noncomputable def b1o (r r' : R2) (ta tb tc : TE) : TE := fun σ H Q => ta σ H fun x H1 => tb σ H1 fun y H2 => r x y H2 fun z H3 => ∃ k, z = .bl k ∧
 (if k = true then tc σ H3 fun w' H4 => r' y w' H4 Q else Q (.bl false) H3)
theorem b3P {op op' : CmpOp} {r r' : R2} (ho : OpR X (compareOp op) r) (ho' : OpR X (compareOp op') r') (ha : PE X a ta) (hb : PE X b tb) (hc : PE X c tc)
  (hm : lastMarks [op, op'] [b, c] = false := by with_unfolding_all rfl) : PE X (.Compare a [op, op'] [b, c] pos) (b1o r r' ta tb tc) := by
 intro pins s σ H Q I h
 refine Compare_chain (thn (ha pins s σ H _ I h) fun v s1 ⟨x, H1, I1, r1, q1⟩ => chain_link (thn (hb pins s1 σ H1 _ I1 q1) fun u s2 ⟨y, H2, I2, r2, q2⟩ =>
  thn (ho pins s2 σ H2 x y v u _ I2 r1 r2 q2) fun d s3 ⟨z, H3, I3, r3, k, e, q3⟩ => ?_)) hm
 subst e
 cases r3
 refine wpAny_truthy_bool ?_
 cases k with
 | false => exact ite_ff ⟨.bl false, H3, I3, rfl, q3⟩
 | true => exact ite_tt (chain_last (thn (hc pins s3 σ H3 _ I3 q3) fun w' s4 ⟨z', H4, I4, r4, q4⟩ => ho' pins s4 σ H4 y z' u w' Q I4 r2 r4 q4))
theorem b3H {op op' : CmpOp} {r r' : R2} (ho : OpR X (compareOp op) r) (ho' : OpR X (compareOp op') r') (ha : PE X a ta) (hb : PE X b tb) (hc : PE X c tc)
  (hm : lastMarks [op, op'] [b, c] = false := by with_unfolding_all rfl) : PT X (.Compare a [op, op'] [b, c] pos) (b7f (b1o r r' ta tb tc)) := by
 intro pins s σ H Q I h
 refine isTrue_chain (thn (ha pins s σ H _ I h) fun v s1 ⟨x, H1, I1, r1, q1⟩ => test_link (thn (hb pins s1 σ H1 _ I1 q1) fun u s2 ⟨y, H2, I2, r2, q2⟩ =>
  thn (ho pins s2 σ H2 x y v u _ I2 r1 r2 q2) fun d s3 ⟨z, H3, I3, r3, k, e, q3⟩ => ?_)) hm
 subst e
 cases r3
 refine wpAny_truthy_bool ?_
 cases k with
 | false =>
   obtain ⟨k', e', q'⟩ := q3
   cases e'
   exact ite_ff ⟨H3, I3, q'⟩
 | true =>
   refine ite_tt (test_last (thn (hc pins s3 σ H3 _ I3 q3) fun w' s4 ⟨z', H4, I4, r4, q4⟩ => thn (ho' pins s4 σ H4 y z' u w' _ I4 r2 r4 q4) fun d' s5 ⟨z2, H5, I5, r5, k2, e2, q5⟩ => ?_))
   subst e2
   cases r5
   exact wpAny_truthy_bool ⟨H5, I5, q5⟩
noncomputable def TruV (K : PySem.W.Frag) (x : V) (H : Hp) (k : Bool) : Prop :=
 match x with
 | .non => k = false
 | .bl b => k = b
 | .int i => k = (i != 0)
 | .str y => y.length ≤ sizeLine ∧ k = ((y.length : Int) != 0)
 | .byt y => y.size ≤ sizeLine ∧ k = ((y.size : Int) != 0)
 | .ref p => (∃ xs, SqL K H p xs ∧ k = !xs.isEmpty) ∨ (∃ xs, SqT K H p xs ∧ k = !xs.isEmpty) ∨ ∃ kvs, H p = some (.dK kvs) ∧ k = !kvs.isEmpty
 | _ => False
theorem b0O {κ : Type} {kvs : List (κ × V)} {vs : List (κ × Value)} (r : KV kvs vs) : (!vs.isEmpty) = !kvs.isEmpty := by
 cases r <;> rfl
theorem a6e {xs : List V} {its : List Value} (r : Vals xs its) : (!its.toArray.isEmpty) = !xs.isEmpty := by
 cases r <;> simp
theorem a4m : (sizeLine : Nat) < 2 ^ 63 := by rw [sizeLine_eq]; decide
theorem b7b : TruR X (fun x H Q => ∃ k, TruV X.K x H k ∧ Q k H) := by
 intro pins s σ H x v Q I rx h
 obtain ⟨k, e, q⟩ := h
 have hl := a4m
 have hs : sizeLine = 16777216 := sizeLine_eq
 cases x with
 | non =>
   cases rx
   have e' : k = false := e
   subst e'
   exact truthy_none ⟨H, I, q⟩
 | bl b =>
   cases rx
   have e' : k = b := e
   subst e'
   exact wpAny_truthy_bool ⟨H, I, q⟩
 | int i =>
   obtain ⟨t, rfl⟩ := rx
   have e' : k = (i != 0) := e
   subst e'
   exact PySem.P.truthy_int ⟨H, I, q⟩
 | str y =>
   obtain ⟨t, rfl⟩ := rx
   obtain ⟨hy, e'⟩ : y.length ≤ sizeLine ∧ k = ((y.length : Int) != 0) := e
   subst e'
   exact PySem.P.truthy_str (by lia) ⟨H, I.tok _, q⟩
 | byt y =>
   obtain ⟨t, rfl⟩ := rx
   obtain ⟨hy, e'⟩ : y.size ≤ sizeLine ∧ k = ((y.size : Int) != 0) := e
   subst e'
   exact PySem.W.truthy_bytes (by lia) ⟨H, I.tok _, q⟩
 | ref p =>
   cases rx
   have e' : (∃ xs, SqL X.K H p xs ∧ k = !xs.isEmpty) ∨ (∃ xs, SqT X.K H p xs ∧ k = !xs.isEmpty) ∨ ∃ kvs, H p = some (.dK kvs) ∧ k = !kvs.isEmpty := e
   rcases e' with ⟨xs, hx, e'⟩ | ⟨xs, hx, e'⟩ | ⟨kvs, hx, e'⟩
   ·subst e'
    obtain ⟨its, r, pl, hz⟩ := I.list hx
    have hlen := r.length
    exact wpAny_truthy_list pl.isList (by simp only [List.size_toArray]; lia) ⟨H, I.tok _, by rw [a6e r]; exact q⟩
   ·subst e'
    obtain ⟨its, r, pl, hz⟩ := I.tuple hx
    have hlen := r.length
    exact truthy_tuple pl (by simp only [List.size_toArray]; lia) ⟨H, I.tok _, by rw [a6e r]; exact q⟩
   ·subst e'
    obtain ⟨hz, hS, vs, r, m⟩ : kvs.length ≤ sizeLine ∧ (p == sysModules) = false ∧ ∃ vs, KV kvs vs ∧ s.heap.DictOf (a0F X.prog X.w) p vs := I.hok p _ hx
    have hlen : kvs.length = vs.length := Paired.length r
    exact wpAny_truthy_dict hS m (by lia) ⟨H, I.tok _, by rw [b0O r]; exact q⟩
 | _ => exact (show False from e).elim
theorem b3G (ha : PE X a ta) (he : ∀ whole, isTrue a X.env whole = (do let v ← whole; standAt a.pos; holding [v] (truthy v))) :
  PT X a (fun σ H Q => ta σ H fun x H' => ∃ k, TruV X.K x H' k ∧ Q k H') := by
 intro pins s σ H Q I h
 exact isTrue_plain (thn (ha pins s σ H _ I h) fun v s1 ⟨x, H1, I1, r1, q1⟩ => b7b pins s1 σ H1 x v Q I1 r1 q1) (he _)
theorem b0D : OpR X (binaryOp .Add) (fun x y H Q => ∃ i j, x = .str i ∧ y = .str j ∧ i.length + j.length ≤ sizeLine ∧ Q (.str (i ++ j)) H) := by
 intro pins s σ H x y v u Q I rx ry h
 obtain ⟨i, j, rfl, rfl, hz, q⟩ := h
 obtain ⟨t, rfl⟩ := rx
 obtain ⟨t', rfl⟩ := ry
 exact add_str (fun t' tk => ⟨.str (i ++ j), H, I.tok _, ⟨_, rfl⟩, q⟩) hz
theorem a3z {x : V} {us : List Value} (r : Vals [x] us) : ∃ u, us = [u] ∧ RelV x u := by
 cases r with
 | cons r1 r2 => cases r2; exact ⟨_, rfl, r1⟩
theorem b9c {x y : V} {us : List Value} (r : Vals [x, y] us) : ∃ u w', us = [u, w'] ∧ RelV x u ∧ RelV y w' := by
 cases r with
 | cons r1 r2 =>
   cases r2 with
   | cons r3 r4 => cases r4; exact ⟨_, _, rfl, r1, r3⟩
theorem b4t : a4T X (.builtin "abs") (fun xs H Q => ∃ i, xs = [.int i] ∧ Q (.int (if i < 0 then -i else i)) H) := by
 intro pins s σ H xs us Q I r h
 obtain ⟨i, rfl, q⟩ := h
 obtain ⟨u, rfl, t, rfl⟩ := a3z r
 exact call_abs_int fun u tk => ⟨.int (if i < 0 then -i else i), H, I.tok _, ⟨_, rfl⟩, q⟩
theorem a8h : a4T X (.type "int") (fun xs H Q => (∃ i, xs = [.int i] ∧ Q (.int i) H) ∨ ∃ k, xs = [.bl k] ∧ Q (.int (if k then 1 else 0)) H) := by
 intro pins s σ H xs us Q I r h
 rcases h with ⟨i, rfl, q⟩ | ⟨k, rfl, q⟩
 ·obtain ⟨u, rfl, t, rfl⟩ := a3z r
  exact call_int_int ⟨.int i, H, I, ⟨_, rfl⟩, q⟩
 ·obtain ⟨u, rfl, r1⟩ := a3z r
  cases r1
  exact call_int_bool ⟨.int (if k then 1 else 0), H, I.tok _, ⟨_, rfl⟩, q⟩
end
structure ObjM (h : Heap) (x dx C : Addr) (mA : Str → Option Value) : Prop where
 obj : h.get? x = some (PySem.W.instObj C dx)
 ns : h.Ns1 dx mA
 ne : dx ≠ x
theorem b2k {h : Heap} {dx : Addr} {mA : Str → Option Value} (n : h.Ns1 dx mA) : ∃ od, h.get? dx = some od ∧ ∀ name, PySem.W.lookIn name od = some (mA name) := by
 obtain ⟨o, es, ep, ho, hd, hk, _, hm⟩ := n
 refine ⟨o, ho, fun name => ?_⟩
 have e := hm name
 unfold nsFind findBy at e
 rw [← Array.find?_toList] at e
 unfold PySem.W.lookIn
 rw [hd]
 dsimp only
 split
 ·rename_i y q
  rw [q] at e
  exact congrArg some e
 ·rename_i q
  rw [q] at e
  have a : es.toList.any (·.refKey) = false := by
   rw [List.any_eq_false]
   intro y hy
   obtain ⟨z, t, hkey⟩ := hk y (Array.mem_toList_iff.mp hy)
   simp [DictEntry.refKey, hkey]
  have a' : ¬ es.toList.any (·.refKey) = true := by rw [a]; exact Bool.false_ne_true
  rw [if_neg a']
  exact congrArg some e
theorem ObjM.look {h : Heap} {x dx C : Addr} {mA : Str → Option Value} (I : ObjM h x dx C mA) : ∃ od, PySem.W.InstAt h x (PySem.W.instObj C dx) C (some od) ∧ ∀ name, PySem.W.lookIn name od = some (mA name) :=
 let ⟨od, ho, hl⟩ := b2k I.ns
 ⟨od, ⟨I.obj, rfl, rfl, ho⟩, hl⟩
section
variable {prog : Program} {w : World} {A : Around} {E : Value → Shared → Prop} {s : Shared} {K : PySem.W.Frag} {x dx C f : Addr} {mA : Str → Option Value} {name : Str} {v : Value}
end
theorem RelO.some_of {v : V} {o : Option Value} (r : RelO (some v) o) : ∃ u, o = some u ∧ RelV v u := by
 cases o with
 | none => exact (show False from r).elim
 | some u => exact ⟨u, rfl, r⟩
section
variable {P : Program} {w : World} {H H' : Hp} {h h' : Heap} {a C dx : Addr} {fs fs' : List (Str × V)}
theorem b6v (hok : HOk P w H h) (e : H a = some (.ins C dx fs)) : ∃ mA, ObjM h a dx C mA ∧ (∀ f, RelO (fs.lookup f) (mA f)) ∧ PySem.Within mA (fs.map (·.1)) ∧ fs.length ≤ 1000 ∧ H dx = some (.own a) := by
 obtain ⟨d, z, ne, ob, mA, n, r, q⟩ := (show a0R P w H h a (.ins C dx fs) from hok a _ e)
 exact ⟨mA, ⟨ob, n, ne⟩, r, q, z, d⟩
end
structure Cls (K : PySem.W.Frag) (C : Addr) : Prop where
 pg : PySem.W.plainGet K C Str.empty = true
 hd : PySem.W.hasDictIn K C = true
 po : PySem.W.plainOver K C = true
 sa : PySem.W.findIn K (.ref C) "__setattr__" = some (some (.builtin "object.__setattr__"))
theorem Cls.get {K : PySem.W.Frag} {C : Addr} (c : Cls K C) (f : Str) : PySem.W.plainGet K C f = true := c.pg
section
variable {X : Cx} {pins : List (Addr × Obj)} {σ : St} {H : Hp} {s : Shared} {a C dx : Addr} {fs : List (Str × V)} {f : Str} {v : V} {A : Around} {E : Value → Shared → Prop}
end
section
variable {X : Cx} {o e value : Expr} {f : Str} {pos pos' tpos : Pos} {ta tv : TE}
end
section
variable {X : Cx} {pins : List (Addr × Obj)} {σ : St} {H : Hp} {s : Shared} {A : Around} {E : Value → Shared → Prop} {Q : Value → Shared → Prop} {c : Value} {b : Bool}
inductive TyOf (K : PySem.W.Frag) (H : Hp) : V → Value → Prop where
 | non : TyOf K H .non (.type "NoneType")
 | bl (x : Bool) : TyOf K H (.bl x) (.type "bool")
 | int (i : Int) : TyOf K H (.int i) (.type "int")
 | str (x : Str) : TyOf K H (.str x) (.type "str")
 | flt (x : UInt64) : TyOf K H (.flt x) (.type "float")
 | lst {a : Addr} {xs : List V} (e : H a = some (.lst xs)) : TyOf K H (.ref a) (.type "list")
 | frz {a : Addr} {o : Obj} {xs : List V} (e : H a = some (.frz o (.lst xs))) : TyOf K H (.ref a) (.type "list")
 | tup {a : Addr} {xs : List V} (e : H a = some (.tup xs)) : TyOf K H (.ref a) (.type "tuple")
 | dK {a : Addr} {kvs : List (Key × V)} (e : H a = some (.dK kvs)) : TyOf K H (.ref a) (.type "dict")
 | dT {a : Addr} {kvs : List (List Key × V)} (e : H a = some (.dT kvs)) : TyOf K H (.ref a) (.type "dict")
 | ins {a C dx : Addr} {fs : List (Str × V)} (e : H a = some (.ins C dx fs)) (cl : Cls K C) (ha : PySem.W.findIn K (.ref C) "__class__" = some (some (.builtin "object.__class__")))
   (hn : PySem.W.specialIn K (.builtin "object.__class__") "__get__" = some (some (.builtin "getset_descriptor.__get__"))) (htk : PySem.W.takesIn K (.builtin "object.__class__") = some true)
   (hm : PySem.W.mroIn K C (.type "object") = some true) : TyOf K H (.ref a) (.ref C)
theorem a2c {x : V} {u t : Value} (I : Inv X pins σ H s) (rx : RelV x u) (ty : TyOf X.K H x t) (e : PySem.W.kitOne X.K t c = some b) (h : ∀ tk, Q (.bool b) { s with toks := tk }) :
  wpAny (model X.prog X.w) A (call (.builtin "isinstance") [u, c]) Q E s := by
 cases ty with
 | non => cases (show u = Value.none from rx); exact PySem.W.kia_one PySem.W.kitx_none I.kIn True.intro e (fun z => nomatch z) h
 | bl y => cases (show u = Value.bool y from rx); exact PySem.W.kia_one PySem.W.kitx_bool I.kIn True.intro e (fun z => nomatch z) h
 | int i => obtain ⟨t, q⟩ := (show ∃ t, u = Value.int i t from rx); cases q; exact PySem.W.kia_one PySem.W.kitx_int I.kIn True.intro e (fun z => nomatch z) h
 | str y => obtain ⟨t, q⟩ := (show ∃ t, u = Value.str y t from rx); cases q; exact PySem.W.kia_one PySem.W.kitx_str I.kIn True.intro e (fun z => nomatch z) h
 | flt y => obtain ⟨t, q⟩ := (show ∃ t, u = Value.float y t from rx); cases q; exact PySem.W.kia_one PySem.W.kitx_float I.kIn True.intro e (fun z => nomatch z) h
 | @lst a xs ea =>
   cases (show u = Value.ref a from rx)
   obtain ⟨_, _, n, _, h1⟩ := (show a0R X.prog X.w H s.heap a (.lst xs) from I.hok a _ ea)
   exact PySem.W.kia_one PySem.W.kitx_list I.kIn ⟨_, h1, rfl⟩ e (fun z => nomatch z) h
 | @frz a ob xs ea =>
   cases (show u = Value.ref a from rx)
   obtain ⟨_, _, _, n, _, h1⟩ := (show a0R X.prog X.w H s.heap a (.frz ob (.lst xs)) from I.hok a _ ea)
   exact PySem.W.kia_one PySem.W.kitx_list I.kIn ⟨_, h1, rfl⟩ e (fun z => nomatch z) h
 | @tup a xs ea =>
   cases (show u = Value.ref a from rx)
   obtain ⟨_, _, _, p⟩ := (show a0R X.prog X.w H s.heap a (.tup xs) from I.hok a _ ea)
   obtain ⟨o, h1, h2, _⟩ := p
   exact PySem.W.kia_one PySem.W.kitx_tuple I.kIn ⟨o, h1, h2⟩ e (fun z => nomatch z) h
 | @dK a kvs ea =>
   cases (show u = Value.ref a from rx)
   obtain ⟨_, _, vs, _, p⟩ := (show a0R X.prog X.w H s.heap a (.dK kvs) from I.hok a _ ea)
   obtain ⟨o, es, ep, h1, h2, _⟩ := p
   exact PySem.W.kia_one PySem.W.kitx_dict I.kIn ⟨o, h1, h2.1⟩ e (fun z => nomatch z) h
 | @dT a kvs ea =>
   cases (show u = Value.ref a from rx)
   obtain ⟨_, _, xs, _, o, es, ep, h1, h2, _⟩ := (show a0R X.prog X.w H s.heap a (.dT kvs) from I.hok a _ ea)
   exact PySem.W.kia_one PySem.W.kitx_dict I.kIn ⟨o, h1, h2.1⟩ e (fun z => nomatch z) h
 | @ins a C dx fs ea cl ha hn htk hm =>
   cases (show u = Value.ref a from rx)
   obtain ⟨mA, O, _⟩ := b6v I.hok ea
   obtain ⟨od, J, _⟩ := O.look
   exact PySem.W.kia_one (PySem.W.kitx_own (cl.get _) cl.hd ha hn htk hm) I.kIn J e (fun z => nomatch z) h
end
structure Room (k : Nat) (A : Around) : Prop where
 hd : A.handled = none
 dp : A.depth + 3 * k + 5 < recursionLimit
 un : A.units + 16 * k + 200 < cLine
theorem Room.mono {j k : Nat} {A : Around} (r : Room k A) (h : j ≤ k) : Room j A := ⟨r.hd, by have := r.dp; lia, by have := r.un; lia⟩
theorem Room.deeper {k : Nat} {A : Around} (r : Room (k + 1) A) (env : Env) : Room k (A.deeper env) :=
 ⟨r.hd, by have := r.dp; show A.depth + 1 + 3 * k + 5 < _; lia, by have := r.un; show A.units + 3 + 16 * k + 200 < _; lia⟩
theorem Room.depth {k : Nat} {A : Around} (r : Room k A) : A.depth < recursionLimit := by have := r.dp; lia
theorem Room.units {k : Nat} {A : Around} (r : Room k A) : A.units + 64 < cLine := by have := r.un; lia
noncomputable def tNil : TA := fun _ H Q => Q [] H
noncomputable def b9r (ta : TE) (tr : TA) : TA := fun σ H Q => ta σ H fun x H1 => tr σ H1 fun xs H2 => Q (x :: xs) H2
section
variable {X : Cx} {e : Expr} {es : List Expr} {te : TE} {t : TA} {pos : Pos}
theorem b1P : PA X [] tNil := fun _ _ _ _ H Q I h => Calls.spliced_nil ⟨[], H, I, .nil, h⟩
theorem a6J (ha : PE X e te) (hr : PA X es t) (hs : starEach (e :: es) X.env = (false, eval e X.env) :: starEach es X.env := by rfl) : PA X (e :: es) (b9r te t) := by
 intro pos pins s σ H Q I h
 rw [hs]
 show wpAny _ _ (spliced ((false, eval e X.env) :: backTo pos (starEach es X.env))) _ _ s
 refine Calls.spliced_cons (thn (ha pins s σ H _ I h) fun u s1 ⟨x, H1, I1, r1, q1⟩ => ?_)
 exact thn (hr pos pins s1 σ H1 _ I1 q1) fun us s2 ⟨xs, H2, I2, r2, q2⟩ => ⟨x :: xs, H2, I2, .cons r1 r2, q2⟩
noncomputable def tTup (t : TA) : TE := fun σ H Q => t σ H fun xs H1 => xs.length ≤ sizeLine ∧ ∀ p, H1 p = none → Q (.ref p) (upd H1 p (.tup xs))
noncomputable def tLst (t : TA) : TE := fun σ H Q => t σ H fun xs H1 => xs.length ≤ sizeLine ∧ ∀ p, H1 p = none → Q (.ref p) (upd H1 p (.lst xs))
theorem b7R {x1} (h : PA X es t) : PE X (.Tuple es x1 pos) (tTup t) := by
 intro pins s σ H Q I hq
 refine wpAny_Tuple_spliced (thn (h pos pins s σ H _ I hq) fun us s1 ⟨xs, H1, I1, r, z, q⟩ => ⟨by rw [← r.length]; exact z, ?_⟩)
 have hf : H1 s1.heap.objs.size = none := I1.hok.fresh (Nat.le_refl _)
 refine ⟨.ref s1.heap.objs.size, upd H1 s1.heap.objs.size (.tup xs), I1.laid (t' := s1.toks) (fun b u e => Heap.get?_push_of_some _ e) (Nat.le_refl _) ?_, rfl, q _ hf⟩
 exact ⟨z, us, r, ⟨_, Heap.get?_push_size _ rfl, rfl, rfl, _, rfl⟩⟩
theorem b7U (h : PA X es t) : PE X (.List es pos) (tLst t) := by
 intro pins s σ H Q I hq
 refine wpAny_List_spliced (thn (h pos pins s σ H _ I hq) fun us s1 ⟨xs, H1, I1, r, z, q⟩ => ⟨by rw [← r.length]; exact z, ?_⟩)
 have hf : H1 s1.heap.objs.size = none := I1.hok.fresh (Nat.le_refl _)
 refine ⟨.ref s1.heap.objs.size, upd H1 s1.heap.objs.size (.lst xs), I1.laid (t' := s1.toks) (fun b u e => Heap.get?_push_of_some _ e) (Nat.le_refl _) ?_, rfl, q _ hf⟩
 exact ⟨z, us, 0, r, Heap.get?_push_size _ rfl⟩
end
noncomputable abbrev Sp := List V → Hp → VK → XK → Prop
noncomputable abbrev CXT := List Env → Hp → Shared → XK → Value → Shared → Prop
structure Env0 (P : Program) (w : World) (K : PySem.W.Frag) (mg : Str → Option Value) (base : Heap) (A : Around) (outer : List Env) (s : Shared) (H : Hp) : Prop where
 frames : A.frames = some outer
 mod : Mod K mg base
 bs : ∀ b o, base.get? b = some o → s.heap.get? b = some o ∧ H b = none
 bsz : base.objs.size ≤ s.heap.objs.size
 funs : s.heap.FunFrames base outer
 frf : ∀ b ∈ frs outer, H b = none
 hok : HOk P w H s.heap
 bare : AllBare s.gens
noncomputable def CE (outer : List Env) (P : Program) (w : World) (H : Hp) (s : Shared) (Q : VK) (u : Value) (s' : Shared) : Prop :=
 ∃ v H', s'.os = s.os ∧ AllBare s'.gens ∧ Un (frs outer) [] H H' s.heap s'.heap ∧ HOk P w H' s'.heap ∧ RelV v u ∧ Q v H'
noncomputable def CR (CX : CXT) (outer : List Env) (P : Program) (w : World) (H : Hp) (s : Shared) (Q : VK) (E : XK) (r : Result) (s' : Shared) : Prop :=
 match r with
 | .ok (.ret u) => CE outer P w H s Q u s'
 | .ok _ => False
 | .error e => CX outer H s E e s'
structure FnOk (P : Program) (w : World) (K : PySem.W.Frag) (mg : Str → Option Value) (base : Heap) (CX : CXT) (k : Nat) (f : Addr) (fd : FuncData) (ps : List Str) (sp : Sp) : Prop where
 len : ∀ vs H Q E, sp vs H Q E → vs.length = ps.length
 run : ∀ (A : Around) (outer : List Env) (s : Shared) (H : Hp) (args : Args) (us : List Value) (vs : List V) (Q : VK) (E : XK), Room k A → Env0 P w K mg base A outer s H → BindsTo s fd args (ps.zip us) → Vals vs us → sp vs H Q E →
  codeAny (model P w) A (.call (.ref f) args) (CR CX outer P w H s Q E) s
theorem FnOk.mono {P : Program} {w : World} {K : PySem.W.Frag} {mg : Str → Option Value} {base : Heap} {CX : CXT} {j k : Nat} {f : Addr} {fd : FuncData} {ps : List Str} {sp : Sp} (F : FnOk P w K mg base CX j f fd ps sp) (h : j ≤ k) :
  FnOk P w K mg base CX k f fd ps sp := ⟨F.len, fun A outer s H args us vs Q E hr => F.run A outer s H args us vs Q E (hr.mono h)⟩
section
variable {X : Cx} {pins : List (Addr × Obj)} {σ : St} {H : Hp} {s s' : Shared}
theorem Inv.env0 (I : Inv X pins σ H s) : Env0 X.prog X.w X.K X.mg X.base X.A X.stack s H :=
 ⟨I.ok.frames, I.ok.mod, I.bs, Nat.le_trans I.ok.bsz I.sz, I.stack, I.stkFree, I.hok, I.bare⟩
theorem Inv.after {Q : VK} {u : Value} (I : Inv X pins σ H s) (h : CE X.stack X.prog X.w H s Q u s') : EP X pins σ Q u s' := by
 obtain ⟨v, H', os, bare, un, hok, r, q⟩ := h
 obtain ⟨hh, g, d, t, os'⟩ := s'
 obtain rfl : os' = s.os := os
 exact ⟨v, H', I.call (h' := hh) (g' := g) (d' := d) (t' := t) (ch := []) un hok bare (fun b z => absurd z (by simp)), r, q⟩
end
noncomputable def b9s (sp : Sp) (dvs : List V) (E : XK) (t : TA) : TE := fun σ H Q => t σ H fun vs H1 => sp (vs ++ dvs) H1 Q E
noncomputable def a0V (K : PySem.W.Frag) (fd : FuncData) (ps : List Str) (ds : List Value) : Prop :=
 ∀ (s : Shared) (us : List Value), K.In s.heap → (us ++ ds).length = ps.length → BindsTo s fd ⟨us, []⟩ (ps.zip (us ++ ds))
theorem a0V.all {K : PySem.W.Frag} {fd : FuncData} {ps : List Str} (h : ∀ us : List Value, us.length = ps.length → bindArgs fd ⟨us, []⟩ = pure (ps.zip us)) : a0V K fd ps [] := fun s us _ hl => by
 rw [List.append_nil] at hl ⊢
 exact .of_eq (h us hl)
noncomputable def b3l (CX : CXT) (X : Cx) (E : XK) : Prop := ∀ (pins : List (Addr × Obj)) (σ : St) (H : Hp) (s : Shared) (e : Value) (s' : Shared), Inv X pins σ H s → CX X.stack H s E e s' → X.xe e s'
section
variable {X : Cx} {CX : CXT} {k : Nat} {f C : Addr} {fd : FuncData} {ps : List Str} {sp : Sp} {dvs : List V} {ds : List Value} {E : XK} {x m : Str} {p pos apos : Pos} {e o : Expr} {es : List Expr} {ta : TE} {t : TA}
theorem b7B {pins : List (Addr × Obj)} {σ : St} {H : Hp} {s : Shared} {Q : VK} {us : List Value} {vs : List V} (F : FnOk X.prog X.w X.K X.mg X.base CX k f fd ps sp) (hr : Room k X.A) (hb : a0V X.K fd ps ds) (hd : Vals dvs ds) (hx : b3l CX X E)
  (I : Inv X pins σ H s) (r : Vals vs us) (h : sp (vs ++ dvs) H Q E) : wpAny (model X.prog X.w) X.A (call (.ref f) us) (EP X pins σ Q) X.xe s := by
 have r2 : Vals (vs ++ dvs) (us ++ ds) := r.append hd
 have hl : (us ++ ds).length = ps.length := by rw [← r2.length]; exact F.len _ _ _ _ h
 refine wpAny_call (codeAny_mono (F.run X.A X.stack s H ⟨us, []⟩ (us ++ ds) (vs ++ dvs) Q E hr I.env0 (hb s us I.kIn hl) r2 h) fun r s' hq => ?_)
 cases r with
 | error e => exact hx pins σ H s e s' I hq
 | ok fl =>
   cases fl with
   | ret u => exact I.after hq
   | next => exact False.elim hq
   | brk => exact False.elim hq
   | cont => exact False.elim hq
theorem b6c (F : FnOk X.prog X.w X.K X.mg X.base CX k f fd ps sp) (hr : Room k X.A) (hg : Gl X x) (hm : X.mg x = some (.ref f)) (hk : PySem.W.keepIn X.K (.ref f) = true) (hb : a0V X.K fd ps ds) (hd : Vals dvs ds) (hx : b3l CX X E)
  (ha : PA X (e :: es) t) (hdb : (x == ("__debug__" : Str)) = false := by decide) (he : starEach (e :: es) X.env = (false, eval e X.env) :: starEach es X.env := by rfl) (hpl : (backTo pos (starEach es X.env)).any (·.1) = false := by rfl) :
  PE X (.Call (.Name x p) (e :: es) [] pos) (b9s sp dvs E t) := by
 intro pins s σ H Q I h
 refine wpAny_Call_Name_kw (b2l I hg hm ?_ hdb)
 refine PySem.W.callWith_K (h₀ := X.base) I.ok.mod.kin hk (thn (ha pos pins s σ H _ I h) fun us s1 ⟨vs, H1, I1, r, q⟩ => ⟨I1.kIn, ?_⟩) he hpl
 exact b7B F hr hb hd hx I1 r q
end
section
variable {X : Cx} {CX : CXT} {k : Nat} {f C : Addr} {fd : FuncData} {ps ks : List Str} {sp : Sp} {E : XK} {x m : Str} {p pos apos kpos : Pos} {e o : Expr} {es : List Expr} {kws : List Keyword} {te ta : TE} {t tk : TA} {nm : Option Str}
variable {g : List Value → List Value → List Value} {gV : List V → List V → List V}
end
structure FnScope (N P : List Str) (sc : Scope) : Prop where
 kind : sc.kind = .function
 co : sc.isCoroutine = false
 gen : sc.isGenerator = false
 nd : N.Nodup
 pre : N.take P.length = P
 par : ∀ x ∈ P, sc.names.lookup x = some .local ∨ sc.names.lookup x = some .cell
 nofree : ∀ y ∈ sc.names, y.2 ≠ .free
theorem a8l {kindOf : Str → Option NameKind} {x : Str} : ∀ {binds : List (Str × Value)} {m : Str → Option Value}, (∀ v, (x, v) ∉ binds) → bindL kindOf binds m x = m x
 | [], _, _ => rfl
 | (n, v) :: r, m, h => by
   unfold bindL
   rw [a8l fun w hw => h w (List.mem_cons_of_mem _ hw)]
   split
   ·have : x ≠ n := by rintro rfl; exact h v List.mem_cons_self
    simp [this]
   ·rfl
theorem a8n {kindOf : Str → Option NameKind} {x : Str} : ∀ {binds : List (Str × Value)} {m : Str → Option Value}, (∀ v, (x, v) ∉ binds) → bindC kindOf binds m x = m x
 | [], _, _ => rfl
 | (n, v) :: r, m, h => by
   unfold bindC
   rw [a8n fun w hw => h w (List.mem_cons_of_mem _ hw)]
   split
   ·rfl
   ·have : x ≠ n := by rintro rfl; exact h v List.mem_cons_self
    simp [this]
theorem a8m {kindOf : Str → Option NameKind} {x : Str} {v : Value} : ∀ {P : List Str} {vs : List Value} {i : Nat} {m : Str → Option Value}, P.Nodup → P[i]? = some x → vs[i]? = some v → kindOf x = some .local →
  bindL kindOf (P.zip vs) m x = some v
 | [], _, _, _, _, h, _, _ => by simp at h
 | _ :: _, [], _, _, _, _, h, _ => by simp at h
 | p :: P, w :: vs, 0, m, nd, h1, h2, hk => by
   simp at h1 h2; subst h1; subst h2
   show bindL kindOf ((p, w) :: P.zip vs) m p = _
   unfold bindL
   rw [a8l fun v hv => (List.nodup_cons.mp nd).1 (List.of_mem_zip hv).1, if_pos hk]
   simp
 | p :: P, w :: vs, i + 1, m, nd, h1, h2, hk => by
   show bindL kindOf ((p, w) :: P.zip vs) m x = _
   unfold bindL
   exact a8m (i := i) (List.nodup_cons.mp nd).2 (by simpa using h1) (by simpa using h2) hk
theorem a8o {kindOf : Str → Option NameKind} {x : Str} {v : Value} : ∀ {P : List Str} {vs : List Value} {i : Nat} {m : Str → Option Value}, P.Nodup → P[i]? = some x → vs[i]? = some v → kindOf x ≠ some .local →
  bindC kindOf (P.zip vs) m x = some v
 | [], _, _, _, _, h, _, _ => by simp at h
 | _ :: _, [], _, _, _, _, h, _ => by simp at h
 | p :: P, w :: vs, 0, m, nd, h1, h2, hk => by
   simp at h1 h2; subst h1; subst h2
   show bindC kindOf ((p, w) :: P.zip vs) m p = _
   unfold bindC
   rw [a8n fun v hv => (List.nodup_cons.mp nd).1 (List.of_mem_zip hv).1, if_neg hk]
   simp
 | p :: P, w :: vs, i + 1, m, nd, h1, h2, hk => by
   show bindC kindOf ((p, w) :: P.zip vs) m x = _
   unfold bindC
   exact a8o (i := i) (List.nodup_cons.mp nd).2 (by simpa using h1) (by simpa using h2) hk
noncomputable def start (N : List Str) (vs : List V) : St := vs.map some ++ List.replicate (N.length - vs.length) none
noncomputable def cxOf (CX : CXT) (P : Program) (w : World) (K : PySem.W.Frag) (mg : Str → Option Value) (base : Heap) (N : List Str) (qual : Str) (scope : Scope) (f : Addr) (cd : Value) (A : Around) (outer : List Env) (s : Shared) (H : Hp) (E : XK) : Cx where
 prog := P
 w := w
 K := K
 mg := mg
 base := base
 A := A.deeper (envOfC qual scope s.heap.objs.size f cd)
 N := N
 s₀ := s
 H₀ := H
 env := envOfC qual scope s.heap.objs.size f cd
 outer := outer
 stack := envOfC qual scope s.heap.objs.size f cd :: outer
 ex := []
 calm := true
 fn := fun _ => true
 pn := []
 xe := fun e s' => wpAny (model P w) (A.deeper (envOfC qual scope s.heap.objs.size f cd)) (leaving (envOfC qual scope s.heap.objs.size f cd) e) (fun _ s'' => CX outer H s E e s'') (fun e' s'' => CX outer H s E e' s'') s'
theorem b0j {sc : Scope} {n : Nat} {x : Str} (h : sc.names.lookup x = some .cell) : ∃ c, (cellsFrom n sc.names []).lookup x = some c := by
 have q := PySem.W.cellsFrom_some sc.names n [] (.inl h)
 exact Option.isSome_iff_exists.mp q
theorem b2u {CX : CXT} {P : Program} {w : World} {K : PySem.W.Frag} {mg : Str → Option Value} {base : Heap} {N ps : List Str} {qual : Str} {scope : Scope} {f : Addr} {cd : Value} {A : Around} {outer : List Env} {s s1 : Shared} {H : Hp} {E : XK} {us : List Value} {vs : List V}
  (S : FnScope N ps scope) (hd : A.handled = none) (e0 : Env0 P w K mg base A outer s H) (hl : vs.length = ps.length) (r : Vals vs us)
  (x : InCallC s s.heap.objs.size (bindL (envOfC qual scope s.heap.objs.size f cd).kindOf (ps.zip us) fun _ => none) (cellsFrom (s.heap.objs.size + 1) scope.names []) (bindC (envOfC qual scope s.heap.objs.size f cd).kindOf (ps.zip us) fun _ => none) s1) :
  Inv (cxOf CX P w K mg base N qual scope f cd A outer s H E) [] (start N vs) H s1 := by
 have hpl : ps.length ≤ N.length := by have := congrArg List.length S.pre; rw [List.length_take] at this; lia
 obtain ⟨h1, tk, rfl, hk⟩ := x.done
 have noA : ∀ b : Addr, b ∉ (cxOf CX P w K mg base N qual scope f cd A outer s H E).ex := fun b z => absurd (show b ∈ ([] : List Addr) from z) (by simp)
 refine ⟨⟨e0.mod, S.kind, rfl, rfl, Nat.le_refl _, fun y z c h1 h2 => ?_, fun y hy => ?_, fun y c _ h => ?_, fun _ => hd, Around.frames_deeper e0.frames, .inr ⟨rfl, rfl⟩, fun b z => absurd z (noA b), e0.bs, e0.bsz, fun b _ _ => noA b, fun b z => absurd z (noA b), e0.funs, e0.frf⟩,
  rfl, e0.bare, Un.kept hk, ⟨_, x.toInCall.ns, fun i y v h1 h2 h3 => ?_⟩, fun y c h => ⟨_, x.cell y c h⟩, e0.hok.fresh (Nat.le_refl _), fun y c h => ?_, fun p hp => absurd (show p ∈ ([] : List (Addr × Obj)) from hp) (by simp), e0.hok.kept hk, ?_⟩
 ·exact name_of_addr x.apart (PySem.mem_of_lookup h1) (PySem.mem_of_lookup h2)
 ·have hy : scope.names.lookup y = some .cell ∨ scope.names.lookup y = some .free := hy
  rcases hy with hy | hy
  ·exact b0j hy
  ·exact absurd rfl (S.nofree _ (PySem.mem_of_lookup hy))
 ·exact Nat.le_of_lt (x.above y c (PySem.mem_of_lookup h))
 ·have hi : i < vs.length := by
   unfold start at h2
   by_cases hi : i < vs.length
   ·exact hi
   ·rw [List.getElem?_append_right (by simpa using hi)] at h2
    rw [List.getElem?_replicate] at h2
    split at h2 <;> cases h2
  have ha : vs[i]? = some v := by
   unfold start at h2
   rw [List.getElem?_append_left (by simpa using hi), List.getElem?_map] at h2
   cases e : vs[i]? with
   | none => rw [e] at h2; cases h2
   | some a => rw [e] at h2; cases h2; rfl
  obtain ⟨u, hu, rv⟩ := r.get ha
  have hp : ps[i]? = some y := by
   rw [← S.pre, List.getElem?_take_of_lt (by lia)]; exact h1
  have ndP : ps.Nodup := by rw [← S.pre]; exact S.nd.sublist (List.take_sublist _ _)
  refine ⟨u, rv, ?_⟩
  rcases S.par y (List.mem_of_getElem? hp) with k | k
  ·exact .inl ⟨k, a8m ndP hp hu k⟩
  ·obtain ⟨c, e⟩ := b0j (n := s.heap.objs.size + 1) k
   refine .inr ⟨.inl k, c, e, ?_⟩
   have q := x.cell y c e
   rw [a8o ndP hp hu (by show scope.names.lookup y ≠ _; rw [k]; decide)] at q
   exact q
 ·exact e0.hok.fresh (Nat.le_of_lt (x.above y c (PySem.mem_of_lookup h)))
 ·unfold start
  show _ = N.length
  rw [List.length_append, List.length_map, List.length_replicate]
  lia
theorem c0a {CX : CXT} {P : Program} {w : World} {K : PySem.W.Frag} {mg : Str → Option Value} {base : Heap} {k : Nat} {f : Addr} {name qual : Str} {params : Arguments} {body : List Stmt} {scope : Scope} {dV kV doc pm cdv ct oc : Value} {an od : Option Addr}
  {osl : Array (Option Value)} {N ps : List Str} {sp : Sp} (lk : K.lookup f = some ⟨oc, od, .func (PySem.W.fnOf name qual params body scope dV kV doc pm an cdv ct), osl⟩) (hcd : PySem.W.codeIn K cdv qual = true) (S : FnScope N ps scope)
  (len : ∀ vs H Q E, sp vs H Q E → vs.length = ps.length)
  (hbody : ∀ (A : Around) (outer : List Env) (s : Shared) (H : Hp) (vs : List V) (Q : VK) (E : XK), Room k (A.deeper (envOfC qual scope s.heap.objs.size f cdv)) → sp vs H Q E →
   ∃ t, PSs (cxOf CX P w K mg base N qual scope f cdv A outer s H E) body t ∧ t { nx := fun _ H' => Q .non H', rt := Q } (start N vs) H) :
  FnOk P w K mg base CX (k + 1) f (PySem.W.fnOf name qual params body scope dV kV doc pm an cdv ct) ps sp := by
 refine ⟨len, fun A outer s H args us vs Q E hr e0 hb r hsp => ?_⟩
 have hl := len _ _ _ _ hsp
 have KX : K.In s.heap := e0.mod.kin.keeps fun b o e => (e0.bs b o e).1
 have lim : s.heap.NoLimit := e0.mod.nolimit.keeps fun b o e => (e0.bs b o e).1
 have hkind : ∀ y ∈ ps.zip us, scope.names.lookup y.1 = some .local ∨ (scope.names.lookup y.1 = some .cell ∧ ((cellsFrom (s.heap.objs.size + 1) scope.names []).lookup y.1).isSome = true) := fun ⟨n, v⟩ hy => by
  rcases S.par n (List.of_mem_zip hy).1 with q | q
  ·exact .inl q
  ·exact .inr ⟨q, PySem.W.cellsFrom_some _ _ _ (.inl q)⟩
 refine codeAny_call_function hr.depth (KX _ _ lk) rfl S.co S.gen rfl (PySem.W.codeRec_of KX hcd) (hb _ _ _ _ ?_)
 refine wpAny_newFunctionEnv_cells S.kind hkind fun env he s1 x => ?_
 subst he
 refine ⟨lim.keeps x.toInCall.keep, codeAny_func ?_⟩
 obtain ⟨t, ht, hq⟩ := hbody A outer s H vs Q E (hr.deeper _) hsp
 have I : Inv (cxOf CX P w K mg base N qual scope f cdv A outer s H E) [] (start N vs) H s1 := b2u S hr.hd e0 hl r x
 refine wpAny_mono (ht [] s1 (start N vs) H _ I hq) (fun fl s' hs => ?_) fun e s' hs => hs
 have fin : ∀ {σ' : St} {H' : Hp} {v : V} {u : Value}, Inv (cxOf CX P w K mg base N qual scope f cdv A outer s H E) [] σ' H' s' → RelV v u → Q v H' → CE outer P w H s Q u s' :=
  fun {σ' H' v u} J rv q => ⟨v, H', J.os, J.bare, J.base, J.hok, rv, q⟩
 cases fl with
 | ret u =>
   obtain ⟨v, σ', H', J, rv, q⟩ := hs
   exact fin J rv q
 | next =>
   obtain ⟨σ', H', J, q⟩ := hs
   exact fin (v := V.non) (u := Value.none) J rfl q
 | brk =>
   obtain ⟨_, _, _, q⟩ := hs
   exact False.elim q
 | cont =>
   obtain ⟨_, _, _, q⟩ := hs
   exact False.elim q
section
variable {X : Cx} {x : Str} {p pos : Pos} {e : Expr} {es : List Expr} {t : TA} {id T : String} {r : List V → Hp → VK → Prop}
noncomputable def tCB (r : List V → Hp → VK → Prop) (t : TA) : TE := fun σ H Q => t σ H fun vs H1 => r vs H1 Q
theorem b3Q (hc : a4T X (.builtin id) r) (hg : Gl X x) (hm : X.mg x = none) (hv : bootBuiltins x = some (.builtin id)) (ha : PA X (e :: es) t) (hn : x ≠ "__name__" := by decide) (hdb : (x == ("__debug__" : Str)) = false := by decide)
  (he : starEach (e :: es) X.env = (false, eval e X.env) :: starEach es X.env := by rfl) (hpl : (backTo pos (starEach es X.env)).any (·.1) = false := by rfl) : PE X (.Call (.Name x p) (e :: es) [] pos) (tCB r t) := by
 intro pins s σ H Q I h
 refine wpAny_Call_Name_kw (a3F I hg hm hv ?_ hn hdb)
 exact PyProof.Rows.callWith_builtin1 (thn (ha pos pins s σ H _ I h) fun us s1 ⟨vs, H1, I1, r1, q1⟩ => hc pins s1 σ H1 vs us Q I1 r1 q1) he hpl
theorem b1O (hc : a4T X (.type T) r) (hg : Gl X x) (hm : X.mg x = none) (hv : bootBuiltins x = some (.type T)) (ha : PA X (e :: es) t) (hn : x ≠ "__name__" := by decide) (hdb : (x == ("__debug__" : Str)) = false := by decide)
  (he : starEach (e :: es) X.env = (false, eval e X.env) :: starEach es X.env := by rfl) (hpl : (backTo pos (starEach es X.env)).any (·.1) = false := by rfl) : PE X (.Call (.Name x p) (e :: es) [] pos) (tCB r t) := by
 intro pins s σ H Q I h
 refine wpAny_Call_Name_kw (a3F I hg hm hv ?_ hn hdb)
 exact PyProof.Rows.callWith_type1 (thn (ha pos pins s σ H _ I h) fun us s1 ⟨vs, H1, I1, r1, q1⟩ => hc pins s1 σ H1 vs us Q I1 r1 q1) he hpl
end
end L2
namespace HT
open PySem PyProof.Rows
section
open PySem.SeqAt
open PySem.AutoSeq1 (wpAny_loadPart')
open PySem.MeetsSeq PySem.MeetsSeq2 PySem.MeetsSeq3
end
section
variable {prog : Program} {w : World} {A : Around} {E : Value → Shared → Prop} {s : Shared}
theorem cat_tup {t b : Addr} {vs ws : List Value} {Q : Value → Shared → Prop} (ht : IsTup s.heap t vs.toArray) (hb : IsTup s.heap b ws.toArray) (hv : vs ≠ [])
  (h1 : ws = [] → Q (.ref t) s) (h2 : ws ≠ [] → Q (.ref s.heap.objs.size) { s with heap := s.heap.push { cls := .type "tuple", data := .seq (vs ++ ws).toArray } })
  (hsz : vs.length + ws.length ≤ sizeLine) : wpAny (model prog w) A (binaryOp .Add (.ref t) (.ref b)) Q E s := by
 obtain ⟨⟨cls, dd, data, sl⟩, ho, hc, n, hd⟩ := id ht
 obtain ⟨⟨cls2, dd2, data2, sl2⟩, ho2, hc2, n2, hd2⟩ := id hb
 simp only at hc hd hc2 hd2
 subst hc hd hc2 hd2
 have e : vs.toArray ++ ws.toArray = (vs ++ ws).toArray := by simp
 by_cases hw : ws = []
 ·exact concat_meets ⟨_, ho, rfl⟩ ⟨_, ho2, rfl⟩ noFill_tuple_add seq_tuple_add PySem.F.slot_tuple_add PySem.F.entry_tuple_add (PySem.F.args_tuple_add_2 _ _)
   (tuple_addW1 t b vs.toArray ws.toArray n n2 dd dd2 sl sl2 (by simpa using hv) (by simp [hw])) ⟨ho, ho2, h1 hw⟩
 ·refine concat_meets ⟨_, ho, rfl⟩ ⟨_, ho2, rfl⟩ noFill_tuple_add seq_tuple_add PySem.F.slot_tuple_add PySem.F.entry_tuple_add (PySem.F.args_tuple_add_2 _ _)
   (tuple_addW2 t b vs.toArray ws.toArray n n2 dd dd2 sl sl2 (by simpa using hv) (by simpa using hw) (by rw [List.size_toArray, List.size_toArray]; exact hsz)) ⟨ho, ho2, ?_⟩
  rw [e]
  exact h2 hw
noncomputable def sIx (n d : Nat) : Option Int → Nat
 | none => d
 | some v => if v < 0 then (v + (n : Int)).toNat else min v.toNat n
theorem sIx_none (n d : Nat) : sIx n d none = d := rfl
theorem sIx_nat (n d k : Nat) : sIx n d (some (k : Int)) = min k n := by
 show (if (k : Int) < 0 then ((k : Int) + (n : Int)).toNat else min (k : Int).toNat n) = min k n
 rw [if_neg (by lia), Int.toNat_natCast]
theorem b7A (n d : Nat) (hd : d ≤ n) (o : Option Int) : sIx n d o ≤ n := by
 cases o with
 | none => exact hd
 | some v =>
   show (if v < 0 then (v + (n : Int)).toNat else min v.toNat n) ≤ n
   by_cases hv : v < 0
   ·rw [if_pos hv]; lia
   ·rw [if_neg hv]; exact Nat.min_le_right _ _
theorem b2Z (v : Int) (n d : Nat) : (if v < 0 then max (v + (n : Int)) 0 else min v (n : Int)) = ((sIx n d (some v) : Nat) : Int) := by
 show (if v < 0 then max (v + (n : Int)) 0 else min v (n : Int)) = (((if v < 0 then (v + (n : Int)).toNat else min v.toNat n) : Nat) : Int)
 by_cases hv : v < 0
 ·simp only [if_pos hv]; lia
 ·simp only [if_neg hv]; lia
theorem b1a (lo hi : Option Int) (n : Nat) : Builtin.Slice.sliceAdjust lo hi 1 (n : Int) = (((sIx n 0 lo : Nat) : Int), ((sIx n n hi : Nat) : Int)) := by
 have h1 : ¬ ((1 : Int) < 0) := by lia
 unfold Builtin.Slice.sliceAdjust
 simp only [h1, if_false]
 refine Prod.ext ?_ ?_
 ·cases lo with
  | none => rfl
  | some v => exact b2Z v n 0
 ·cases hi with
  | none => rfl
  | some v => exact b2Z v n n
theorem b0z (i j : Nat) : Builtin.Slice.slicePlaces (i : Int) (j : Int) 1 = j - i := by
 unfold Builtin.Slice.slicePlaces
 have h1 : (1 : Int) > 0 := by lia
 simp only [h1, if_true, Int.ediv_one]
 split <;> lia
theorem a5V {v : Value} {o : Option Int} {Q : Option Int → Shared → Prop} (p : IsPart v o) (h : Q o s) : wpAny (model prog w) A (Builtin.Slice.slicePartIndex v) Q E s := by
 cases p with
 | none => exact slicePart_none h
 | int i t => exact slicePart_int h
theorem a2X {sl : Addr} {vl vu : Value} {lo hi : Option Int} {n : Nat} {Q : Int × Int × Nat → Shared → Prop} (hs : s.heap.IsSliceOf sl vl vu .none) (pl : IsPart vl lo) (pu : IsPart vu hi)
  (h : Q (((sIx n 0 lo : Nat) : Int), 1, sIx n n hi - sIx n 0 lo) s) : wpAny (model prog w) A (Builtin.Slice.sliceApplied (.ref sl) (pure (n : Int))) Q E s := by
 obtain ⟨os, hos, hcs, hds⟩ := id hs
 unfold Builtin.Slice.sliceApplied Builtin.Slice.sliceFields
 refine wpAny_bind (wpAny_bind (wpAny_field hos hds (x := vl) rfl (wpAny_bind (wpAny_field hos hds (x := vu) rfl (wpAny_bind (wpAny_field hos hds (x := .none) rfl (wpAny_pure ?_)))))))
 refine wpAny_bind (slicePart_none ?_)
 show wpAny _ _ (if ((1 : Int) == 0) = true then _ else _) _ _ s
 rw [if_neg (by decide)]
 refine wpAny_bind (a5V pl (wpAny_bind (a5V pu (wpAny_bind (wpAny_pure ?_)))))
 show wpAny _ _ (match Builtin.Slice.sliceAdjust lo hi 1 (n : Int) with | (lo, hi) => pure (lo, (1 : Int), Builtin.Slice.slicePlaces lo hi 1)) _ _ s
 rw [b1a lo hi n]
 show wpAny _ _ (pure (((sIx n 0 lo : Nat) : Int), (1 : Int), Builtin.Slice.slicePlaces ((sIx n 0 lo : Nat) : Int) ((sIx n n hi : Nat) : Int) 1)) _ _ s
 rw [b0z]
 exact wpAny_pure h
theorem b3K (xs : Array Value) (i k : Nat) : ((List.range k).filterMap fun (m : Nat) => xs[((i : Int) + (m : Int) * 1).toNat]?).toArray = ((xs.toList.drop i).take k).toArray := by
 have e : (fun (m : Nat) => xs[((i : Int) + (m : Int) * 1).toNat]?) = fun m => xs[i + m]? := by
  funext m
  have : ((i : Int) + (m : Int) * 1).toNat = i + m := by lia
  rw [this]
 rw [e]
 have := pick_run xs i k
 rw [List.filterMap_map] at this
 have e2 : ((fun x => xs[x]?) ∘ fun x => i + x) = fun m => xs[i + m]? := rfl
 rw [e2] at this
 rw [this]
theorem getItem_tuple_cut {t sl : Addr} {items : Array Value} {vl vu : Value} {lo hi : Option Int} {Q : Value → Shared → Prop} (ht : IsTup s.heap t items) (hs : s.heap.IsSliceOf sl vl vu .none) (pl : IsPart vl lo) (pu : IsPart vu hi)
  (hw : ¬ (sIx items.size 0 lo = 0 ∧ sIx items.size items.size hi = items.size))
  (h : Q (.ref s.heap.objs.size) { s with heap := s.heap.push { cls := .type "tuple", data := .seq ((items.toList.drop (sIx items.size 0 lo)).take (sIx items.size items.size hi - sIx items.size 0 lo)).toArray } })
  (hsz : items.size ≤ sizeLine) : wpAny (model prog w) A (getItem (.ref t) (.ref sl)) Q E s := by
 have htake : sizeOk (.seq ((items.toList.drop (sIx items.size 0 lo)).take (sIx items.size items.size hi - sIx items.size 0 lo)).toArray) := by
  show ((items.toList.drop (sIx items.size 0 lo)).take (sIx items.size items.size hi - sIx items.size 0 lo)).toArray.size ≤ sizeLine
  rw [List.size_toArray, List.length_take, List.length_drop, Array.length_toList]
  lia
 have hj : sIx items.size items.size hi ≤ items.size := b7A _ _ (Nat.le_refl _) hi
 obtain ⟨os, hos, hcs, hds⟩ := id hs
 have hTs : s.TypeIs (.ref sl) "slice" := ⟨os, hos, hcs⟩
 unfold getItem
 try with_reducible refine wpAny_holding ?_
 first | refine wpAny_bind (wpAny_pure ?_) | skip
 refine wpAny_bind (wpAny_sequenceKey ht.typeIs (by decide) ?_)
 refine wpAny_bind (wpAny_callSpecial?_slot (name := Str.ofString "__getitem__") ht.typeIs PyProof.Rows.slot_tuple_getitem
  (wpAny_call_entry PyProof.Rows.slot_tuple_getitem ht.typeIs entry_tuple_getitem ?_ (args_tuple_getitem _ _)))
 show wpAny _ _ (Builtin.Tuple.tupleItemsOf (.ref t) >>= _) _ _ s
 refine wpAny_bind (tupleItemsOf_ ht ?_)
 refine wpAny_bind (wpAny_typeOf hTs ?_)
 rw [if_pos (by decide)]
 refine wpAny_bind (a2X hs pl pu ?_)
 have hno : ¬ ((((sIx items.size 0 lo : Nat) : Int) == 0 && (1 : Int) == 1 && (sIx items.size items.size hi - sIx items.size 0 lo) == items.size) = true) := by
  intro q
  rw [Bool.and_eq_true, Bool.and_eq_true] at q
  have q1 : ((sIx items.size 0 lo : Nat) : Int) = 0 := eq_of_beq q.1.1
  have q2 : sIx items.size items.size hi - sIx items.size 0 lo = items.size := eq_of_beq q.2
  exact hw ⟨by lia, by lia⟩
 show wpAny _ _ (if (((sIx items.size 0 lo : Nat) : Int) == 0 && (1 : Int) == 1 && (sIx items.size items.size hi - sIx items.size 0 lo) == items.size) = true then _ else _) _ _ s
 rw [if_neg hno, b3K]
 first
  | exact wpAny_bind (m := Builtin.Tuple.tupleExact _) (wpAny_newObj_type (wpAny_pure ⟨_, rfl, wpAny_pure h⟩) htake)
  | exact wpAny_bind (m := Builtin.Tuple.tupleExact _) (wpAny_newObj_type (wpAny_bind (wpAny_pure (wpAny_pure ⟨_, rfl, wpAny_pure h⟩))) htake)
  | exact wpAny_bind (wpAny_bind (m := Builtin.Tuple.tupleExact _) (wpAny_newObj_type (wpAny_pure (wpAny_pure ⟨_, rfl, wpAny_pure h⟩)) htake))
  | exact wpAny_bind (wpAny_bind (m := Builtin.Tuple.tupleExact _) (wpAny_newObj_type (wpAny_pure ⟨_, rfl, wpAny_pure h⟩) htake))
end
end HT
namespace L2
open PySem PySem.Spec PyProof.Rows
noncomputable abbrev TO := St → Hp → (Option Int → Hp → Prop) → Prop
noncomputable def PO (X : Cx) (e : Option Expr) (t : TO) : Prop :=
 ∀ (pins : List (Addr × Obj)) (s : Shared) (σ : St) (H : Hp) (Q : Option Int → Hp → Prop), Inv X pins σ H s → t σ H Q →
   wpAny (model X.prog X.w) X.A (evalPart e X.env) (fun u s' => ∃ o H', Inv X pins σ H' s' ∧ IsPart u o ∧ Q o H') X.xe s
noncomputable def b5n : TO := fun _ H Q => Q none H
noncomputable def b9m (t : TE) : TO := fun σ H Q => t σ H fun x H1 => ∃ i, x = .int i ∧ Q (some i) H1
theorem a4x {ns : List Int} : ∀ {us : List Value}, Vals (ns.map V.int) us → IntsAre us ns := by
 induction ns with
 | nil => intro us r; rw [List.map_nil] at r; cases r; exact .nil
 | cons n ns ih =>
   intro us r
   rw [List.map_cons] at r
   cases r with
   | cons r1 r2 =>
     obtain ⟨t, e⟩ := r1
     subst e
     exact .cons n t (ih r2)
section
variable {X : Cx} {e : Expr} {te : TE} {lo hi : Option Expr} {tl th : TO} {pos p2 : Pos}
theorem b5X : PO X none b5n := by
 intro pins s σ H Q I h
 rw [evalPart_none]
 exact wpAny_pure ⟨none, H, I, .none, h⟩
theorem b5W (h : PE X e te) : PO X (some e) (b9m te) := by
 intro pins s σ H Q I hw
 rw [evalPart_some]
 refine thn (h pins s σ H _ I hw) fun u s1 ⟨x, H1, I1, r1, q1⟩ => ?_
 obtain ⟨i, rfl, q⟩ := q1
 obtain ⟨t, rfl⟩ := r1
 exact ⟨some i, H1, I1, .int i t, q⟩
noncomputable def SlR (X : Cx) (r : V → Option Int → Option Int → Hp → VK → Prop) : Prop :=
 ∀ (pins : List (Addr × Obj)) (s : Shared) (σ : St) (H : Hp) (x : V) (v vl vu : Value) (lo hi : Option Int) (sl : Addr) (Q : VK), Inv X pins σ H s → RelV x v → s.heap.IsSliceOf sl vl vu .none → IsPart vl lo → IsPart vu hi → r x lo hi H Q →
   ∃ T id, typeLookup (.type T) "__getitem__" = pure (some (.builtin id)) ∧ s.TypeIs v T ∧ wpAny (model X.prog X.w) X.A (getItem v (.ref sl)) (EP X pins σ Q) X.xe s
theorem SlR.or {r r' : V → Option Int → Option Int → Hp → VK → Prop} (h : SlR X r) (h' : SlR X r') : SlR X (fun x lo hi H Q => r x lo hi H Q ∨ r' x lo hi H Q) := by
 intro pins s σ H x v vl vu lo hi sl Q I rx hs pl pu q
 rcases q with q | q
 ·exact h pins s σ H x v vl vu lo hi sl Q I rx hs pl pu q
 ·exact h' pins s σ H x v vl vu lo hi sl Q I rx hs pl pu q
noncomputable def tSl (r : V → Option Int → Option Int → Hp → VK → Prop) (te : TE) (tl th : TO) : TE := fun σ H Q => te σ H fun x H1 => tl σ H1 fun l H2 => th σ H2 fun u H3 => r x l u H3 Q
theorem b3L {r : V → Option Int → Option Int → Hp → VK → Prop} (hr : SlR X r) (he : PE X e te) (hl : PO X lo tl) (hu : PO X hi th) : PE X (.Subscript e (.Slice lo hi none p2) pos) (tSl r te tl th) := by
 intro pins s σ H Q I h
 refine Subscript_ (thn (he pins s σ H _ I h) fun v s1 ⟨x, H1, I1, r1, q1⟩ => ?_)
 refine wpAny_Slice (thn (hl pins s1 σ H1 _ I1 q1) fun vl s2 ⟨l, H2, I2, pl, q2⟩ => thn (hu pins s2 σ H2 _ I2 q2) fun vu s3 ⟨u, H3, I3, pu, q3⟩ => ?_)
 rw [evalPart_none]
 refine wpAny_pure ?_
 have I4 : Inv X pins σ H3 { s3 with heap := s3.heap.push { cls := .type "slice", data := .fields #[vl, vu, .none] } } := I3.kept (t' := s3.toks) fun b ob q => Heap.get?_push_of_some _ q
 obtain ⟨T, id, hT, ht, hg⟩ := hr pins { s3 with heap := s3.heap.push { cls := .type "slice", data := .fields #[vl, vu, .none] } } σ H3 x v vl vu l u s3.heap.objs.size Q I4 r1 (Heap.IsSliceOf.new ..) pl pu q3
 show wpAny (model X.prog X.w) X.A (subscriptTail e (.Slice lo hi none p2) v (.ref s3.heap.objs.size)) (EP X pins σ Q) X.xe { s3 with heap := s3.heap.push { cls := .type "slice", data := .fields #[vl, vu, .none] } }
 exact tail_any (ops := [.ref s3.heap.objs.size, v]) ht hT hg (by with_unfolding_all rfl)
noncomputable def cutV (xs : List V) (lo hi : Option Int) : List V := (xs.drop (HT.sIx xs.length 0 lo)).take (HT.sIx xs.length xs.length hi - HT.sIx xs.length 0 lo)
theorem a5B (xs : List V) (lo hi : Option Int) : (cutV xs lo hi).length ≤ xs.length := by
 unfold cutV
 rw [List.length_take, List.length_drop]
 lia
noncomputable def rSlT (K : PySem.W.Frag) : V → Option Int → Option Int → Hp → VK → Prop := fun x lo hi H Q => ∃ a xs, x = .ref a ∧ SqT K H a xs ∧
 ¬ (HT.sIx xs.length 0 lo = 0 ∧ HT.sIx xs.length xs.length hi = xs.length) ∧ ∀ p, H p = none → Q (.ref p) (upd H p (.tup (cutV xs lo hi)))
theorem b7u : SlR X (rSlT X.K) := by
 intro pins s σ H x v vl vu lo hi sl Q I rx hs pl pu h
 obtain ⟨a, xs, rfl, hx, hw, q⟩ := h
 cases rx
 obtain ⟨its, r, ht, hz⟩ := I.tuple hx
 have hlen : its.toArray.size = xs.length := by rw [List.size_toArray]; exact r.length.symm
 refine ⟨"tuple", _, PyProof.Rows.slot_tuple_getitem.lookup, ht.typeIs, ?_⟩
 refine HT.getItem_tuple_cut ht hs pl pu (by rw [hlen]; exact hw) ?_ (by rw [hlen]; exact hz)
 rw [hlen]
 refine ⟨.ref s.heap.objs.size, _, I.laid (t' := s.toks) (o := .tup (cutV xs lo hi)) (fun b ob q => Heap.get?_push_of_some _ q) (Nat.le_refl _) ?_, rfl, q _ (I.hok.fresh (Nat.le_refl _))⟩
 exact ⟨Nat.le_trans (a5B xs lo hi) hz, _, (r.drop (HT.sIx xs.length 0 lo)).take (HT.sIx xs.length xs.length hi - HT.sIx xs.length 0 lo), a2g.new _ _⟩
noncomputable def b9C (K : PySem.W.Frag) : R2 := fun x y H Q => ∃ a b xs ys, x = .ref a ∧ y = .ref b ∧ SqT K H a xs ∧ SqT K H b ys ∧ xs ≠ [] ∧ xs.length + ys.length ≤ sizeLine ∧
 (ys = [] → Q (.ref a) H) ∧ (ys ≠ [] → ∀ p, H p = none → Q (.ref p) (upd H p (.tup (xs ++ ys))))
theorem Vals.nil_iff {xs : List V} {us : List Value} (r : Vals xs us) : us = [] ↔ xs = [] := by
 cases r with
 | nil => simp
 | cons _ _ => simp
theorem b1R : OpR X (binaryOp .Add) (b9C X.K) := by
 intro pins s σ H x y v u Q I rx ry h
 obtain ⟨a, b, xs, ys, rfl, rfl, ha, hb, hx, hz, q1, q2⟩ := h
 cases rx
 cases ry
 obtain ⟨its, r1, p1, _⟩ := I.tuple ha
 obtain ⟨its2, r2, p2, _⟩ := I.tuple hb
 refine HT.cat_tup p1 p2 (fun z => hx (r1.nil_iff.mp z)) (fun z => ⟨.ref a, H, I, rfl, q1 (r2.nil_iff.mp z)⟩) (fun z => ?_) (by rw [← r1.length, ← r2.length]; exact hz)
 refine ⟨.ref s.heap.objs.size, _, I.laid (t' := s.toks) (o := .tup (xs ++ ys)) (fun b ob q => Heap.get?_push_of_some _ q) (Nat.le_refl _) ?_, rfl, q2 (fun w => z (r2.nil_iff.mpr w)) _ (I.hok.fresh (Nat.le_refl _))⟩
 exact ⟨by rw [List.length_append]; exact hz, _, r1.append r2, a2g.new _ _⟩
end
noncomputable def ixN (n : Nat) (i : Int) : Option Nat := if 0 ≤ i then (if i < n then some i.toNat else none) else if -(n : Int) ≤ i then some (i + n).toNat else none
noncomputable def atI {α : Type} (xs : List α) (i : Int) : Option α := (ixN xs.length i).bind fun j => xs[j]?
theorem b2q {n : Nat} {i : Int} {j : Nat} (h : ixN n i = some j) : seqIndex? i n = some j ∧ j < n ∧ -(n : Int) ≤ i ∧ i < n := by
 unfold ixN at h
 by_cases h0 : 0 ≤ i
 ·rw [if_pos h0] at h
  by_cases h1 : i < n
  ·rw [if_pos h1] at h
   have e : i.toNat = j := Option.some.inj h
   exact ⟨by rw [seqIndex_of h0 h1, e], by lia, by lia, h1⟩
  ·rw [if_neg h1] at h; cases h
 ·rw [if_neg h0] at h
  by_cases h1 : -(n : Int) ≤ i
  ·rw [if_pos h1] at h
   have e : (i + n).toNat = j := Option.some.inj h
   exact ⟨by rw [seqIndex_neg (by lia) h1, e], by lia, h1, by lia⟩
  ·rw [if_neg h1] at h; cases h
theorem a9l {α : Type} {xs : List α} {i : Int} {v : α} (h : atI xs i = some v) : ∃ j, seqIndex? i xs.length = some j ∧ xs[j]? = some v ∧ j < xs.length ∧ -(xs.length : Int) ≤ i ∧ i < xs.length := by
 unfold atI at h
 cases e : ixN xs.length i with
 | none => rw [e] at h; cases h
 | some j =>
   rw [e] at h
   obtain ⟨h1, h2, h3, h4⟩ := b2q e
   exact ⟨j, h1, h, h2, h3, h4⟩
theorem a3W {α : Type} {xs : List α} {j : Nat} {v : α} (h : xs[j]? = some v) : atI xs (j : Int) = some v := by
 have hj : j < xs.length := (List.getElem?_eq_some_iff.mp h).1
 have e : ixN xs.length (j : Int) = some j := by
  unfold ixN
  rw [if_pos (by lia), if_pos (by lia)]; simp
 unfold atI; rw [e]; exact h
theorem b4v {α : Type} (xs : List α) (v : α) : atI (xs ++ [v]) (-1) = some v := by
 have hl : (xs ++ [v]).length = xs.length + 1 := by simp
 have e : ixN (xs ++ [v]).length (-1) = some xs.length := by
  unfold ixN
  rw [hl, if_neg (by decide), if_pos (by lia)]
  congr 1
  lia
 unfold atI
 rw [e]
 show (xs ++ [v])[xs.length]? = some v
 simp
noncomputable def b3k (b : Expr) : Prop := ∀ o i, subscripted b false o i = operate [o, i] (getItem o i)
noncomputable def IxR (X : Cx) (r : R2) : Prop :=
 ∀ (value slice : Expr) (pins : List (Addr × Obj)) (s : Shared) (σ : St) (H : Hp) (x y : V) (v u : Value) (Q : VK), Inv X pins σ H s → RelV x v → RelV y u → r x y H Q →
   subscripted slice false v u = operate [v, u] (getItem v u) → wpAny (model X.prog X.w) X.A (subscriptTail value slice v u) (EP X pins σ Q) X.xe s
noncomputable def MtR (X : Cx) (id : String) (r : V → List V → Hp → VK → Prop) : Prop :=
 ∀ (pins : List (Addr × Obj)) (s : Shared) (σ : St) (H : Hp) (x : V) (xs : List V) (v : Value) (us : List Value) (Q : VK), Inv X pins σ H s → RelV x v → Vals xs us → r x xs H Q →
   wpAny (model X.prog X.w) X.A (call (.builtin id) (v :: us)) (EP X pins σ Q) X.xe s
section
variable {X : Cx} {a b : Expr} {ta tb : TE} {pos : Pos}
theorem b9H {r : R2} (hr : IxR X r) (ha : PE X a ta) (hb : PE X b tb) (hs : b3k b) : PE X (.Subscript a b pos) (tOp r ta tb) := by
 intro pins s σ H Q I h
 exact Subscript_ (binT ha hb I h fun v u s2 x y H2 I2 rx ry q => hr a b pins s2 σ H2 x y v u Q I2 rx ry q (hs _ _))
noncomputable def rIxL (K : PySem.W.Frag) : R2 := fun x y H Q => ∃ p xs i v, x = .ref p ∧ y = .int i ∧ SqL K H p xs ∧ atI xs i = some v ∧ Q v H
noncomputable def rIxT (K : PySem.W.Frag) : R2 := fun x y H Q => ∃ p xs i v, x = .ref p ∧ y = .int i ∧ SqT K H p xs ∧ atI xs i = some v ∧ Q v H
noncomputable def rIxS : R2 := fun x y H Q => ∃ z i c, x = .str z ∧ y = .int i ∧ z.length ≤ sizeLine ∧ atI z.cps.toList i = some c ∧ Q (.str ⟨#[c]⟩) H
theorem b2p : IxR X (rIxL X.K) := by
 intro value slice pins s σ H x y v u Q I rx ry h hs
 obtain ⟨p, xs, i, z, rfl, rfl, hq, he, q⟩ := h
 cases rx
 obtain ⟨t, rfl⟩ := ry
 obtain ⟨its, r, pl, hz⟩ := I.list hq
 obtain ⟨j, h1, h2, h3, h4, h5⟩ := a9l he
 obtain ⟨w, ew, rw'⟩ := r.get h2
 have hl := r.length
 have hn := a4m
 have fin : EP X pins σ Q w s := ⟨z, H, I, rw', q⟩
 by_cases h0 : 0 ≤ i
 ·have hj : i.toNat = j := by
   rw [seqIndex_of h0 h5] at h1
   exact Option.some.inj h1
  exact item_listR pl.isList h0 (by lia) (by rw [hj]; simpa using ew) fin hs
 ·have hj : (i + (its.toArray.size : Int)).toNat = j := by
   rw [seqIndex_neg (by lia) h4] at h1
   rw [List.size_toArray, ← hl]
   exact Option.some.inj h1
  exact subscriptTail_builtinR (x := w) pl.isList.typeIs slot_list_getitem.lookup
   (wpAny_getItem_list_neg (Q := fun r s' => r = w ∧ EP X pins σ Q r s') pl.isList (by lia) (by rw [List.size_toArray] <;> lia) (by lia) (by rw [hj]; simpa using ew) ⟨rfl, fin⟩) hs
theorem b8x : IxR X (rIxT X.K) := by
 intro value slice pins s σ H x y v u Q I rx ry h hs
 obtain ⟨p, xs, i, z, rfl, rfl, hq, he, q⟩ := h
 cases rx
 obtain ⟨t, rfl⟩ := ry
 obtain ⟨its, r, pl, hz⟩ := I.tuple hq
 obtain ⟨j, h1, h2, h3, h4, h5⟩ := a9l he
 obtain ⟨w, ew, rw'⟩ := r.get h2
 have hl := r.length
 have hn := a4m
 have fin : EP X pins σ Q w s := ⟨z, H, I, rw', q⟩
 exact subscriptTail_builtinR (x := w) pl.typeIs slot_tuple_getitem.lookup
  (getItem_tuple (j := j) (Q := fun r s' => r = w ∧ EP X pins σ Q r s') pl (by lia) (by lia) (by rw [List.size_toArray, ← hl]; exact h1) (by simpa using ew) ⟨rfl, fin⟩) hs
theorem b8y : IxR X rIxS := by
 intro value slice pins s σ H x y v u Q I rx ry h hs
 obtain ⟨z, i, c, rfl, rfl, hz, he, q⟩ := h
 obtain ⟨t, rfl⟩ := rx
 obtain ⟨t', rfl⟩ := ry
 obtain ⟨j, h1, h2, h3, h4, h5⟩ := a9l he
 have hl : z.cps.toList.length = z.length := by simp [Str.length]
 rw [hl] at h1 h4 h5
 have hn := a4m
 exact tail_any (typeIs_str s z t) slot_str_getitem.lookup (getItem_str (c := c) (by
  have e1 : decide (i < -(2 ^ 63 : Int)) = false := decide_eq_false (by lia)
  have e2 : decide (i ≥ 2 ^ 63) = false := decide_eq_false (by lia)
  rw [e1, e2, Bool.or_false]) (by rw [h1]; simpa using h2) ⟨.str ⟨#[c]⟩, H, I.tok _, ⟨_, rfl⟩, q⟩) hs
theorem b0K (its : List Value) (n j : Nat) (u : Value) : Obj.mapSeq (·.setIfInBounds j u) { cls := .type "list", data := .seq its.toArray n } = { cls := .type "list", data := .seq (its.set j u).toArray n } := by
 simp [Obj.mapSeq]
theorem Inv.lst {pins : List (Addr × Obj)} {σ : St} {H : Hp} {s : Shared} {p : Addr} {xs : List V} (I : Inv X pins σ H s) (h : H p = some (.lst xs)) :
  ∃ (its : List Value) (n : Nat), Vals xs its ∧ s.heap.get? p = some { cls := .type "list", data := .seq its.toArray n } ∧ xs.length ≤ sizeLine := by
 obtain ⟨z, its, n, r, e⟩ := I.hok p _ h
 exact ⟨its, n, r, e, z⟩
theorem Inv.lstUpd {pins : List (Addr × Obj)} {σ : St} {H : Hp} {s : Shared} {p : Addr} {xs ys : List V} {its its' : List Value} {n n' : Nat} {f : Obj → Obj} (I : Inv X pins σ H s) (h : H p = some (.lst xs))
  (ho : s.heap.get? p = some { cls := .type "list", data := .seq its.toArray n }) (hf : f { cls := .type "list", data := .seq its.toArray n } = { cls := .type "list", data := .seq its'.toArray n' }) (r : Vals ys its') (hz : ys.length ≤ sizeLine) (t : Nat) :
  Inv X pins σ (upd H p (.lst ys)) { s with heap := s.heap.update p f, toks := t } := by
 have e : (s.heap.update p f).get? p = some { cls := .type "list", data := .seq its'.toArray n' } := by
  rw [Heap.get?_update_self f ho (by rw [hf] <;> rfl), hf]
 refine I.write (x := p) (e := p) (by rw [h]; trivial) (.inl rfl) (fun b u hb q => (Heap.get?_update_other _ _ (Ne.symm hb)).trans q) ⟨_, e⟩ ?_
 exact ⟨hz, its', n', r, e⟩
noncomputable def b9A : V → V → V → Hp → (Hp → Prop) → Prop := fun o i v H Q => ∃ p xs k j, o = .ref p ∧ i = .int k ∧ H p = some (.lst xs) ∧ ixN xs.length k = some j ∧ Q (upd H p (.lst (xs.set j v)))
theorem b3v : PSet X b9A := by
 intro pins s σ H o i v ov iv u Q I ro ri rv h
 obtain ⟨p, xs, k, j, rfl, rfl, hp, hj, q⟩ := h
 cases ro
 obtain ⟨t, rfl⟩ := ri
 obtain ⟨its, n, r, ho, hz⟩ := I.lst hp
 obtain ⟨h1, h2, h3, h4⟩ := b2q hj
 have hl := r.length
 have hn := a4m
 have I' : Inv X pins σ (upd H p (.lst (xs.set j v))) { s with heap := s.heap.update p (Obj.mapSeq (·.setIfInBounds j u)) } :=
  I.lstUpd hp ho (b0K its n j u) (r.set rv j) (by rw [List.length_set]; exact hz) s.toks
 by_cases h0 : 0 ≤ k
 ·have hk : k.toNat = j := by
   rw [seqIndex_of h0 h4] at h1
   exact Option.some.inj h1
  exact PySem.W.ki_setAt ho h0 (by lia) (by rw [List.size_toArray, ← hl]; exact h4) (by rw [hk]; exact ⟨_, I', q⟩)
 ·have hk : (k + (its.toArray.size : Int)).toNat = j := by
   rw [seqIndex_neg (by lia) h3] at h1
   rw [List.size_toArray, ← hl]
   exact Option.some.inj h1
  exact PySem.W.ki_setBack ho (by lia) (by rw [List.size_toArray, ← hl]; exact h3) (by lia) (by rw [hk]; exact ⟨_, I', q⟩)
theorem a7r (lo hi : Option Int) (n : Nat) : (sliceBounds lo hi none n).1 = ((HT.sIx n 0 lo : Nat) : Int) ∧ (sliceBounds lo hi none n).2.1 = ((HT.sIx n n hi : Nat) : Int) ∧ (sliceBounds lo hi none n).2.2 = 1 := by
 refine ⟨?_, ?_, rfl⟩
 ·cases lo with
  | none => simp [sliceBounds, HT.sIx]
  | some i =>
    simp only [sliceBounds, HT.sIx, Option.getD_none, show (1 : Int) > 0 by decide, if_true]
    by_cases h : i < 0
    ·simp only [h, if_true] <;> lia
    ·simp only [h, if_false] <;> lia
 ·cases hi with
  | none => simp [sliceBounds, HT.sIx]
  | some i =>
    simp only [sliceBounds, HT.sIx, Option.getD_none, show (1 : Int) > 0 by decide, if_true]
    by_cases h : i < 0
    ·simp only [h, if_true] <;> lia
    ·simp only [h, if_false] <;> lia
theorem a6x (its : List Value) (lo hi : Option Int) : slicePick its.toArray lo hi none = ((its.drop (HT.sIx its.length 0 lo)).take (HT.sIx its.length its.length hi - HT.sIx its.length 0 lo)).toArray := by
 obtain ⟨h1, h2, h3⟩ := a7r lo hi its.toArray.size
 unfold slicePick
 rw [h1, h2, h3]
 simp only [sliceRange_one, pick_run, List.size_toArray] <;> rfl
noncomputable def rSlL (K : PySem.W.Frag) : V → Option Int → Option Int → Hp → VK → Prop := fun x lo hi H Q => ∃ a xs, x = .ref a ∧ SqL K H a xs ∧ ∀ p, H p = none → Q (.ref p) (upd H p (.lst (cutV xs lo hi)))
theorem b5u : SlR X (rSlL X.K) := by
 intro pins s σ H x v vl vu lo hi sl Q I rx hs pl pu h
 obtain ⟨a, xs, rfl, hx, q⟩ := h
 cases rx
 obtain ⟨its, r, ht, hz⟩ := I.list hx
 have hlen := r.length
 refine ⟨"list", _, slot_list_getitem.lookup, ht.isList.typeIs, ?_⟩
 refine wpAny_getItem_list_slice ht.isList hs pl pu .none (by simp) ?_ (by rw [List.size_toArray] <;> lia)
 rw [a6x, ← hlen]
 refine ⟨.ref s.heap.objs.size, _, I.laid (t' := s.toks) (o := .lst (cutV xs lo hi)) (fun b ob q => Heap.get?_push_of_some _ q) (Nat.le_refl _) ?_, rfl, q _ (I.hok.fresh (Nat.le_refl _))⟩
 exact ⟨Nat.le_trans (a5B xs lo hi) hz, _, 0, (r.drop (HT.sIx xs.length 0 lo)).take (HT.sIx xs.length xs.length hi - HT.sIx xs.length 0 lo), Heap.get?_push_size _ rfl⟩
theorem a3j : a4T X (.builtin "len") (fun xs H Q => ∃ p ys, xs = [.ref p] ∧ (SqL X.K H p ys ∨ SqT X.K H p ys) ∧ Q (.int ys.length) H) := by
 intro pins s σ H xs us Q I r h
 obtain ⟨p, ys, rfl, hq, q⟩ := h
 obtain ⟨u, rfl, rx⟩ := a3z r
 cases rx
 have hn := a4m
 rcases hq with hq | hq
 ·obtain ⟨its, r', pl, hz⟩ := I.list hq
  have hlen := r'.length
  exact Calls.call_len_list pl.isList (by simp only [List.size_toArray] <;> lia) ⟨.int ys.length, H, I.tok _, ⟨s.toks + 1, by rw [List.size_toArray, hlen]⟩, q⟩
 ·obtain ⟨its, r', pl, hz⟩ := I.tuple hq
  have hlen := r'.length
  exact len_tuple pl (by simp only [List.size_toArray] <;> lia) ⟨.int ys.length, H, I.tok _, ⟨s.toks + 1, by rw [List.size_toArray, hlen]⟩, q⟩
theorem a8g : a4T X (.builtin "len") (fun xs H Q => ∃ z, xs = [.str z] ∧ z.length ≤ sizeLine ∧ Q (.int z.length) H) := by
 intro pins s σ H xs us Q I r h
 obtain ⟨z, rfl, hz, q⟩ := h
 obtain ⟨u, rfl, t, rfl⟩ := a3z r
 have hn := a4m
 exact len_str (by lia) ⟨.int z.length, H, I.tok _, ⟨_, rfl⟩, q⟩
theorem a3i : a4T X (.type "list") (fun xs H Q => ∃ p ys, xs = [.ref p] ∧ (SqL X.K H p ys ∨ SqT X.K H p ys) ∧ ∀ l, H l = none → Q (.ref l) (upd H l (.lst ys))) := by
 intro pins s σ H xs us Q I r h
 obtain ⟨p, ys, rfl, hq, q⟩ := h
 obtain ⟨u, rfl, rx⟩ := a3z r
 cases rx
 have fin : ∀ (its : List Value), Vals ys its → ys.length ≤ sizeLine → ∀ (h' : Heap) (c' : Nat), (∀ b o', s.heap.get? b = some o' → h'.get? b = some o') →
   h'.get? s.heap.objs.size = some { cls := .type "list", dict := none, data := .seq its.toArray c', slots := #[] } → EP X pins σ Q (.ref s.heap.objs.size) { s with heap := h' } := fun its r' hz h' c' kp e =>
  ⟨.ref s.heap.objs.size, _, I.laid (t' := s.toks) kp (Nat.le_refl _) (show a0R X.prog X.w _ h' _ (.lst ys) from ⟨hz, its, c', r', e⟩), rfl, q _ (I.hok.fresh (Nat.le_refl _))⟩
 rcases hq with hq | hq
 ·obtain ⟨its, r', pl, hz⟩ := I.list hq
  have hlen := r'.length
  obtain ⟨o, ho, hc, n, hd⟩ := pl.isList
  exact call_list_seq p (.inl rfl) ho hc hd (fun h' c' kp e => fin its r' hz h' c' kp e) (by simp only [List.size_toArray] <;> lia)
 ·obtain ⟨its, r', pl, hz⟩ := I.tuple hq
  have hlen := r'.length
  obtain ⟨o, ho, hc, n, hd⟩ := pl
  exact call_list_seq p (.inr rfl) ho hc hd (fun h' c' kp e => fin its r' hz h' c' kp e) (by simp only [List.size_toArray] <;> lia)
theorem a1U : a4T X (.type "tuple") (fun xs H Q => ∃ p ys, xs = [.ref p] ∧ ((SqL X.K H p ys ∧ ∀ l, H l = none → Q (.ref l) (upd H l (.tup ys))) ∨ (SqT X.K H p ys ∧ Q (.ref p) H))) := by
 intro pins s σ H xs us Q I r h
 obtain ⟨p, ys, rfl, h⟩ := h
 obtain ⟨u, rfl, rx⟩ := a3z r
 cases rx
 rcases h with ⟨hq, q⟩ | ⟨hq, q⟩
 ·obtain ⟨its, r', pl, hz⟩ := I.list hq
  have hlen := r'.length
  refine call_tuple_list pl.isList (fun h' kp => ?_) (by simp only [List.size_toArray] <;> lia)
  have I1 : Inv X pins σ H { s with heap := h' } := I.kept (t' := s.toks) kp
  have I2 : Inv X pins σ (upd H h'.objs.size (.tup ys)) { s with heap := h'.push { cls := .type "tuple", data := .seq its.toArray } } :=
   I1.laid (t' := s.toks) (fun b o e => Heap.get?_push_of_some _ e) (Nat.le_refl _) (show a0R X.prog X.w _ _ _ (.tup ys) from ⟨hz, its, r', a2g.new _ _⟩)
  exact ⟨.ref h'.objs.size, _, I2, rfl, q _ (I1.hok.fresh (Nat.le_refl _))⟩
 ·obtain ⟨its, r', pl, hz⟩ := I.tuple hq
  exact call_tuple_same pl ⟨.ref p, H, I, rfl, q⟩
noncomputable def tyV (K : PySem.W.Frag) (T : String) (x : V) (H : Hp) : Prop := match x with
 | .str _ => T = "str"
 | .int _ => T = "int"
 | .ref p => (T = "list" ∧ ∃ xs, SqL K H p xs) ∨ (T = "tuple" ∧ ∃ o, K.lookup p = some o ∧ o.cls = .type "tuple" ∧ o.dict = none) ∨
   (T = "dict" ∧ ((∃ kvs, H p = some (.dK kvs)) ∨ ∃ kvs, H p = some (.dT kvs))) ∨ (T = "set" ∧ ∃ S n, H p = some (.set S n))
 | _ => False
theorem b4y {pins : List (Addr × Obj)} {σ : St} {H : Hp} {s : Shared} {T : String} {x : V} {v : Value} (I : Inv X pins σ H s) (r : RelV x v) (ty : tyV X.K T x H) :
  s.TypeIs v T ∧ ∀ a, v = .ref a → ∃ ob, s.heap.get? a = some ob ∧ ob.dict = none := by
 cases x with
 | str z =>
   obtain ⟨t, rfl⟩ := r
   cases (show T = "str" from ty)
   exact ⟨typeIs_str s z t, fun _ e => nomatch e⟩
 | int i =>
   obtain ⟨t, rfl⟩ := r
   cases (show T = "int" from ty)
   exact ⟨typeIs_int s i t, fun _ e => nomatch e⟩
 | ref p =>
   cases r
   rcases ty with ⟨rfl, xs, hq⟩ | ⟨rfl, o, hk, hc, hd⟩ | ⟨rfl, hk⟩ | ⟨rfl, S, n, hk⟩
   ·obtain ⟨its, _, pl, _⟩ := I.list hq
    refine ⟨pl.isList.typeIs, fun a e => ?_⟩
    cases e
    obtain ⟨o, n, e, c, hd, _⟩ := pl
    exact ⟨o, e, hd⟩
   ·refine ⟨⟨o, I.kIn p o hk, hc⟩, fun a e => ?_⟩
    cases e
    exact ⟨o, I.kIn _ o hk, hd⟩
   ·have z : ∃ o, s.heap.get? p = some o ∧ o.ExactDict := by
     rcases hk with ⟨kvs, hk⟩ | ⟨kvs, hk⟩
     ·obtain ⟨_, _, _, _, o, _, _, e, ex, _⟩ := I.hok p _ hk
      exact ⟨o, e, ex⟩
     ·obtain ⟨_, _, _, _, o, _, _, e, ex, _⟩ := I.hok p _ hk
      exact ⟨o, e, ex⟩
    obtain ⟨o, e, ex⟩ := z
    refine ⟨⟨o, e, ex.1⟩, fun a e2 => ?_⟩
    cases e2
    exact ⟨o, e, ex.2.1⟩
   ·obtain ⟨o, _, _, _, e, ex, _⟩ := I.hok p _ hk
    refine ⟨⟨o, e, ex.1⟩, fun a e2 => ?_⟩
    cases e2
    exact ⟨o, e, ex.2.1⟩
 | _ => exact False.elim ty
noncomputable def tBM (K : PySem.W.Frag) (T : String) (r : V → List V → Hp → VK → Prop) (to : TE) (t : TA) : TE := fun σ H Q => to σ H fun x H1 => tyV K T x H1 ∧ t σ H1 fun xs H2 => r x xs H2 Q
variable {o e : Expr} {es : List Expr} {to : TE} {t : TA} {name : Str} {apos cpos : Pos} {T id : String} {r : V → List V → Hp → VK → Prop}
theorem b9I (pa : PlainAttrs T) (slot : Slot T name id) (hty : typeOf (.builtin id) = pure (.type "method_descriptor")) (hm : MtR X id r) (ho : PE X o to) (ha : PA X (e :: es) t)
  (hbase : attributeBase o name X.env (eval o X.env) = eval o X.env := by rfl)
  (hfew : ((backTo cpos (starEach (e :: es) X.env)).all (fun x => !x.1) && (backToKw cpos (keywordEach [] X.env)).all (fun x => x.1.isSome)
   && decide ((e :: es).length + ([] : List Keyword).length + (if ([] : List Keyword).isEmpty then 0 else 1) < 30)) = true := by rfl)
  (hline : (apos.endLine == cpos.line) = true := by rfl) (hs : starEach (e :: es) X.env = (false, eval e X.env) :: starEach es X.env := by rfl) (hplain : (backTo cpos (starEach es X.env)).any (·.1) = false := by rfl) :
  PE X (.Call (.Attribute o name apos) (e :: es) [] cpos) (tBM X.K T r to t) := by
 intro pins s σ H Q I h
 refine wpAny_Call_method_late hbase hfew hline rfl (thn (ho pins s σ H _ I h) fun v s1 ⟨x, H1, I1, r1, ty, q1⟩ => ?_)
 obtain ⟨h1, h2⟩ := b4y I1 r1 ty
 refine ⟨T, id, pa, slot, hty, h1, h2, ?_⟩
 have hA := ha cpos pins s1 σ H1 _ I1 q1
 rw [hs] at hA ⊢
 refine Calls.callWith_builtin (by show (false || (backTo cpos (starEach es X.env)).any (·.1)) = false; rw [hplain] <;> rfl) (Calls.evalArgs_plain ?_)
 exact thn hA fun us s2 ⟨vs, H2, I2, r2, q2⟩ => hm pins s2 σ H2 x vs v us Q I2 r1 r2 q2
end
noncomputable def MtM (X : Cx) (id : String) (r : V → List V → Hp → VK → Prop) : Prop :=
 ∀ (pins : List (Addr × Obj)) (s : Shared) (σ : St) (H : Hp) (x : V) (xs : List V) (v : Value) (us : List Value) (Q : VK), Inv X pins σ H s → RelV x v → Vals xs us → r x xs H Q →
   wpAny (model X.prog X.w) X.A (call (.builtin id) (v :: us)) (EP X pins σ Q) X.xe s
theorem Vals.one : ∀ {x : V} {us : List Value}, Vals [x] us → ∃ u, us = [u] ∧ RelV x u
 | _, _, .cons r .nil => ⟨_, rfl, r⟩
theorem Vals.two : ∀ {x y : V} {us : List Value}, Vals [x, y] us → ∃ u v, us = [u, v] ∧ RelV x u ∧ RelV y v
 | _, _, _, .cons r (.cons q .nil) => ⟨_, _, rfl, r, q⟩
theorem Vals.rep {xs : List V} {us : List Value} (h : Vals xs us) : ∀ k : Nat, Vals (List.replicate k xs).flatten (List.replicate k us).flatten
 | 0 => .nil
 | k + 1 => by
   rw [List.replicate_succ, List.replicate_succ, List.flatten_cons, List.flatten_cons]
   exact Vals.append h (Vals.rep h k)
theorem a5x (its : List Value) : ∀ (k : Nat) (acc : List Value),
  List.foldl (fun x1 x2 => x1 ++ x2) acc.toArray (List.replicate k its.toArray) = (acc ++ (List.replicate k its).flatten).toArray
 | 0, acc => by simp
 | k + 1, acc => by
   have e : acc.toArray ++ its.toArray = (acc ++ its).toArray := by simp
   have e2 : (acc ++ its) ++ (List.replicate k its).flatten = acc ++ (List.replicate (k + 1) its).flatten := by
    rw [List.replicate_succ, List.flatten_cons, List.append_assoc]
   rw [← e2, ← a5x its k (acc ++ its), ← e, List.replicate_succ, List.foldl_cons]
section
variable {X : Cx} {pins : List (Addr × Obj)} {σ : St} {H : Hp} {s : Shared} {l b : Addr} {xs ys zs : List V}
theorem Inv.lset {its its' : List Value} {n : Nat} {f : Array Value → Array Value} {t' : Nat} (I : Inv X pins σ H s) (hH : H l = some (.lst xs))
  (e : s.heap.get? l = some { cls := .type "list", data := .seq its.toArray n }) (hf : f its.toArray = its'.toArray) (hv : Vals ys its') (hz : ys.length ≤ sizeLine) :
  Inv X pins σ (upd H l (.lst ys)) { s with heap := s.heap.update l (Obj.mapSeq f), toks := t' } := by
 have q := PySem.IsL.update e f
 rw [hf] at q
 refine I.write (x := l) (e := l) (by rw [hH]; exact trivial) (.inl rfl) (fun b' u hb hu => (Heap.get?_update_other s.heap (Obj.mapSeq f) (Ne.symm hb)).trans hu) ⟨_, q⟩ ?_
 exact ⟨hz, its', _, hv, q⟩
theorem Inv.lnew {its : List Value} {t' : Nat} (I : Inv X pins σ H s) (hv : Vals ys its) (hz : ys.length ≤ sizeLine) :
  Inv X pins σ (upd H s.heap.objs.size (.lst ys)) { s with heap := s.heap.push { cls := .type "list", data := .seq its.toArray }, toks := t' } :=
 I.laid (fun _ _ q => Heap.get?_push_of_some _ q) (Nat.le_refl _) ⟨hz, its, 0, hv, Heap.get?_push_size _ rfl⟩
theorem Inv.fresh (I : Inv X pins σ H s) : H s.heap.objs.size = none := I.hok.fresh (Nat.le_refl _)
theorem Inv.lstM (I : Inv X pins σ H s) (hH : H l = some (.lst xs)) : xs.length ≤ sizeLine ∧ ∃ (its : List Value) (n : Nat), Vals xs its ∧ xs.length = its.length ∧ s.heap.get? l = some { cls := .type "list", data := .seq its.toArray n } := by
 obtain ⟨z, its, n, r, e⟩ := I.hok l _ hH
 exact ⟨z, its, n, r, r.length, e⟩
theorem b3Y {n : Nat} (h : n ≤ sizeLine) : Builtin.List.listTooLong n = false := by
 unfold Builtin.List.listTooLong
 exact decide_eq_false (by lia)
end
section
variable {X : Cx}
noncomputable def b5K : V → List V → Hp → VK → Prop := fun x vs H Q => ∃ l xs y, x = .ref l ∧ vs = [y] ∧ H l = some (.lst xs) ∧ xs.length < sizeLine ∧ Q .non (upd H l (.lst (xs ++ [y])))
theorem b2f : MtM X "list.append" b5K := by
 intro pins s σ H x vs v us Q I rx rv h
 obtain ⟨l, xs, y, rfl, rfl, hH, hz, q⟩ := h
 cases rx
 obtain ⟨u, rfl, ru⟩ := rv.one
 obtain ⟨z, its, n, r, hl, e⟩ := I.lstM hH
 refine call_meets F.slot_list_append ⟨_, e, rfl⟩ F.entry_list_append (F.args_list_append_2 _ _) (PySem.list_append l its.toArray n u (by rw [List.size_toArray]; lia)) ⟨e, ?_⟩
 refine ⟨.non, _, I.lset (its' := its ++ [u]) hH e (by simp) (r.append (.cons ru .nil)) ?_, rfl, q⟩
 rw [List.length_append, List.length_singleton]
 lia
noncomputable def rCat : R2 := fun x y H Q => ∃ l b xs zs, x = .ref l ∧ y = .ref b ∧ H l = some (.lst xs) ∧ H b = some (.lst zs) ∧ xs.length + zs.length ≤ sizeLine ∧ ∀ p, H p = none → Q (.ref p) (upd H p (.lst (xs ++ zs)))
theorem b8e : OpR X (binaryOp .Add) rCat := by
 intro pins s σ H x y v u Q I rx ry h
 obtain ⟨l, b, xs, zs, rfl, rfl, hH, hB, hz, q⟩ := h
 cases rx
 cases ry
 obtain ⟨z, its, n, r, hl, e⟩ := I.lstM hH
 obtain ⟨z2, its2, n2, r2, hl2, e2⟩ := I.lstM hB
 refine PySem.P.add_list e e2 ?_ (by rw [List.size_toArray, List.size_toArray]; lia)
 have ea : its.toArray ++ its2.toArray = (its ++ its2).toArray := by simp
 rw [ea]
 exact ⟨.ref _, _, I.lnew (t' := s.toks) (r.append r2) (by rw [List.length_append]; lia), rfl, q _ I.fresh⟩
noncomputable def rRep : R2 := fun x y H Q => ∃ l k xs, x = .ref l ∧ y = .int k ∧ H l = some (.lst xs) ∧ -(2 ^ 63) ≤ k ∧ k < 2 ^ 63 ∧ xs.length * k.toNat ≤ sizeLine ∧
 ∀ p, H p = none → Q (.ref p) (upd H p (.lst (List.replicate k.toNat xs).flatten))
theorem a8T {α : Type} (xs : List α) (k : Nat) : (List.replicate k xs).flatten.length = k * xs.length := by
 induction k with
 | zero => simp
 | succ k ih => rw [List.replicate_succ, List.flatten_cons, List.length_append, ih, Nat.succ_mul, Nat.add_comm]
theorem b8a : OpR X (binaryOp .Mult) rRep := by
 intro pins s σ H x y v u Q I rx ry h
 obtain ⟨l, k, xs, rfl, rfl, hH, h1, h2, hz, q⟩ := h
 cases rx
 obtain ⟨t, rfl⟩ := ry
 obtain ⟨z, its, n, r, hl, e⟩ := I.lstM hH
 have hlen : its.toArray.size * k.toNat ≤ sizeLine := by rw [List.size_toArray, ← hl]; exact hz
 have hcap : ¬ its.toArray.size * k.toNat > (2 ^ 63 - 1) / 8 := by
  have : (sizeLine : Nat) ≤ (2 ^ 63 - 1) / 8 := by decide
  lia
 have hfit : ¬ (!Builtin.List.listFitsIndex k) = true := by
  rw [fitsIndex_both h1 h2]
  exact Bool.false_ne_true
 have hlong : ¬ Builtin.List.listTooLong (its.toArray.size * k.toNat) = true := by
  rw [b3Y hlen]
  exact Bool.false_ne_true
 have hnew : List.foldl (fun x1 x2 => x1 ++ x2) #[] (List.replicate (if its.toArray.isEmpty = true then 0 else k.toNat) its.toArray) = (List.replicate k.toNat its).flatten.toArray := by
  have f0 : ∀ m : Nat, List.foldl (fun x1 x2 => x1 ++ x2) #[] (List.replicate m its.toArray) = (List.replicate m its).flatten.toArray := fun m => by
   have := a5x its m []
   rw [List.nil_append] at this
   exact this
  rw [f0]
  cases its with
  | nil => simp
  | cons a r' => rw [if_neg (by simp)]
 refine wpAny_binaryOp_repeat_ref (T := "list") (U := "int") (by decide) ⟨_, e, rfl⟩ (fun s' => typeIs_int s' k t) noFill_list_mul F.fills_int_mul F.slot_int_rmul repeat_list F.slot_int_index.lookup
  (call_meets F.slot_int_rmul (typeIs_int s k t) F.entry_int_rmul (F.args_int_rmul_2 _ _) (int___rmul___int_list k t l its.toArray n)
   ⟨e, rfl, ⟨_, e, rfl⟩, call_meets F.slot_list_mul ⟨_, e, rfl⟩ F.entry_list_mul (F.args_list_mul_2 _ _) (AutoListH.list___mul___list_int_3 l its.toArray n k t hfit hcap hlong) ⟨e, ?_⟩⟩)
 rw [hnew]
 exact ⟨.ref _, _, I.lnew (t' := s.toks) (r.rep k.toNat) (by rw [a8T, Nat.mul_comm]; exact hz), rfl, q _ I.fresh⟩
end
section
variable {prog : Program} {w : World} {A : Around} {E : Value → Shared → Prop} {s : Shared}
end
section
variable {X : Cx}
end
end L2
namespace Att
open PySem PySem.W PySem.Calls PyProof.Rows
theorem a5u {P : Params} {h : Heap} : ∀ (ns : List Int) (vs : List Value), WellAll P h vs (ns.map WData.int) → IntsAre vs ns := by
 intro ns
 induction ns with
 | nil =>
   intro vs w
   rw [List.map_nil] at w
   cases w
   exact .nil
 | cons n ns ih =>
   intro vs w
   rw [List.map_cons] at w
   cases w with
   | cons a b =>
     cases a
     exact .cons _ _ (ih _ b)
theorem b1B {l : OpenLaw} {n : Nat} (hn : l.most = some n) {P : Params} {h : Heap} {args : List WData} {vals : List Value}
  (hpre : l.row.toRowW.claim.pre args = true) (hwl : WellAll P h vals args) :
  ∃ a vs ns, vals = [Value.ref a] ∧ args = [WData.list (ns.map WData.int)] ∧ h.get? a = some { cls := .type "list", data := .seq vs.toArray } ∧ IntsAre vs ns ∧ ns.length ≤ n := by
 have hsh : WShape.hasAll [] args [.list .int] = true := (pre_splitW hpre).1
 have hc : l.pre.holds [] { args := args } = true := (pre_splitW hpre).2
 obtain ⟨d, r, rfl, h1, h2⟩ := hasAllW_cons hsh
 obtain rfl := hasAllW_nil h2
 obtain ⟨xs, rfl, h3⟩ := hasW_list h1
 obtain ⟨ns, rfl⟩ := items_int h3
 have hlen : ns.length ≤ n := by
  unfold OpenLaw.pre at hc
  have h4 : (WTm.not (.lt (.lit (.int (n : Int))) (.len (.arg 0)))).holds [] { args := [.list (ns.map .int)] } = true := by
   have h4 := (holds_andW hc).1
   rw [hn] at h4
   exact h4
  have h5 := condW_of h4 (w_not (w_lt w_lit (w_len_list (w_arg rfl))))
  rw [List.length_map] at h5
  refine Nat.le_of_not_lt fun q => ?_
  have q' : (n : Int) < ((ns.length : Nat) : Int) := by lia
  first
   | (rw [decide_eq_true q'] at h5; exact absurd h5 (by decide))
   | (simp at h5; lia)
 cases hwl with
 | cons w1 w2 =>
   cases w2
   cases w1 with
   | list ho hall => exact ⟨_, _, ns, rfl, rfl, ho, a5u ns _ hall, hlen⟩
theorem b1K (l : OpenLaw) (args : List WData) : l.row.toRowW.claim.post args (.bool true) args = true :=
 postW_of (r := l.row.toRowW) (X := (true == true))
  (show WShape.has [] (.bool true) .bool = true by first | rfl | decide | simp [WShape.has, WShape.arms, WShape.armsAll])
  (show (WTm.eq .res (.lit (.bool true))).value [] { args := args, res := some (.bool true), after := args } = some (.bool (true == true)) from w_eq_bool (w_res rfl) w_lit) rfl
theorem attach_call {l : OpenLaw} {n : Nat} {q : Program} {loose : List Str} {XP : (Str → Option Value) → Heap → Prop} {YP : World → Heap → Prop} {d : DefRec}
  (hn : l.most = some n) (hdf : d.params.defaults = [])
  (call : ∀ (w : World) (s₀ s₁ : Shared) (mg mb : Str → Option Value) (fa : Addr) (o : Obj) (pm cd doc : Value) (a : Addr) (vs : List Value) (ns : List Int),
   Ground q loose [] XP w s₀ mg mb s₁.heap → YP w s₁.heap →
   s₁.heap.get? fa = some o → o.data = .func (docDef d.name d.params d.body d.scope pm cd doc) → s₁.heap.CodeRec cd d.name → mg d.name = some (.ref fa) →
   s₁.heap.get? a = some { cls := .type "list", data := .seq vs.toArray } → IntsAre vs ns → ns.length ≤ n → s₁.gens = #[] →
   codeAny (model l.prog w) callerA (.call (.ref fa) ⟨[.ref a], []⟩) (fun r s' => r = .ok (.ret (.bool true)) ∧ OldK s₁.heap s'.heap ∧ s'.os = s₁.os ∧ AllBare s'.gens) s₁) :
  WalkO q loose XP YP l.row.toRowW d [] (fun f vs => PySem.call f vs) := by
 intro w s₀ s₁ mg mb G Y fa o pm cd doc dV kV ho hd hcd hD hmg hg args vals as hpre hlay hrd hwl hlo
 obtain rfl : dV = .none := Dflts.none hD hdf
 obtain rfl : kV = .none := Dflts.noKw hD
 obtain ⟨a, vs, ns, rfl, rfl, hobj, hints, hlen⟩ := b1B hn hpre hwl
 refine enter_call (codeAny_mono (call w s₀ s₁ mg mb fa o pm cd doc a vs ns G Y ho (fd_plain hd) hcd hmg hobj hints hlen hg) fun r s' hq => ?_)
 obtain ⟨rfl, h2, h3, h4⟩ := hq
 exact ⟨.inl ⟨.bool true, .bool true, [], rfl, fun _ => rfl, .bool true, b1K l _, fun _ => ⟨List.Pairwise.nil, fun _ hm => (nomatch hm)⟩⟩, h2, h3, h4⟩
section
variable {prog : Program} {w : World} {A : Around} {E : Value → Shared → Prop} {s : Shared} {K : Frag}
end
end Att
namespace L2
open PySem PySem.Spec PyProof.Rows
theorem a3X : ∀ {vs : List Value} {ns : List Int}, IntsAre vs ns → Vals (ns.map V.int) vs
 | _, _, .nil => .nil
 | _, _, .cons n t h => .cons ⟨t, rfl⟩ (a3X h)
noncomputable def Only (H : Hp) : Prop := ∀ b, H b = none ∨ ∃ o xs, H b = some (.frz o (.lst xs))
theorem b4c {P : Program} {w : World} {K : PySem.W.Frag} {mg mb : Str → Option Value} {CX : CXT} {k : Nat} {fa a : Addr} {fd : FuncData} {x : Str} {sp : Sp} {s₁ : Shared} {vs : List Value} {ns : List Int}
  (KX : K.In s₁.heap) (hns : s₁.heap.Ns mainGlobals mg) (hb : s₁.heap.Ns builtinsNs mb) (hbb : ∀ x : Str, x ≠ "__name__" → mb x = bootBuiltins x) (hlim : s₁.heap.NoLimit) (hg : s₁.gens = #[])
  (ha : s₁.heap.get? a = some { cls := .type "list", data := .seq vs.toArray }) (hi : IntsAre vs ns) (hl : ns.length ≤ sizeLine) (hr : Room k callerA)
  (F : ∀ base : Heap, K.In base → base.Ns mainGlobals mg → FnOk P w K mg base CX k fa fd [x] sp) (hbind : ∀ (s : Shared) (u : Value), BindsTo s fd ⟨[u], []⟩ [(x, u)])
  (hsp : ∀ H : Hp, Only H → SqL K H a (ns.map V.int) → sp [.ref a] H (fun v _ => v = .bl true) fun _ _ _ => False)
  (hCX : ∀ H e s', CX [] H s₁ (fun _ _ _ => False) e s' → False) :
  codeAny (model P w) callerA (.call (.ref fa) ⟨[.ref a], []⟩) (fun r s' => r = .ok (.ret (.bool true)) ∧ OldK s₁.heap s'.heap ∧ s'.os = s₁.os ∧ AllBare s'.gens) s₁ := by
 have rv := a3X hi
 have lenV := hi.length
 -- from an abstract heap in which nothing but the script may be tracked
 have core : ∀ H : Hp, Only H → SqL K H a (ns.map V.int) → HOk P w H s₁.heap → (∀ b, H b ≠ none → b = a) → (H a ≠ none → K.lookup a = none) →
   codeAny (model P w) callerA (.call (.ref fa) ⟨[.ref a], []⟩) (fun r s' => r = .ok (.ret (.bool true)) ∧ OldK s₁.heap s'.heap ∧ s'.os = s₁.os ∧ AllBare s'.gens) s₁ := by
  intro H hO hS hok hA hK
  have base_of : ∀ {b : Addr} {o : Obj}, s₁.heap.get? b = some o → H b = none → (hidT s₁.heap H).get? b = some o := fun e n => b4h e n
  have noA : ∀ {b : Addr} {o : Obj} {es : Array DictEntry} {ep : Nat}, s₁.heap.get? b = some o → o.data = .dict es ep → H b = none := fun {b o es ep} e d => by
   cases q : H b with
   | none => rfl
   | some u =>
     have e' : b = a := hA b (by rw [q]; simp)
     subst e'
     rw [ha] at e; cases e
     have d' : Data.seq vs.toArray _ = Data.dict es ep := d
     cases d'
  have nsK : ∀ {b : Addr} {m : Str → Option Value}, s₁.heap.Ns b m → (hidT s₁.heap H).Ns b m := fun {b m} ⟨o, es, ep, e, d, r⟩ => ⟨o, es, ep, base_of e (noA e d), d, r⟩
  have hKb : K.In (hidT s₁.heap H) := fun b o e => base_of (KX b o e) (by
   cases q : H b with
   | none => rfl
   | some u =>
     have e' : b = a := hA b (by rw [q]; simp)
     subst e'
     rw [hK (by rw [q]; simp)] at e; cases e)
  have hM : Mod K mg (hidT s₁.heap H) := ⟨hKb, nsK hns, ⟨mb, nsK hb, hbb⟩, let ⟨mc, h1, h2⟩ := hlim; ⟨mc, nsK h1, h2⟩⟩
  have e0 : Env0 P w K mg (hidT s₁.heap H) callerA [] s₁ H := ⟨rfl, hM, fun b o e => b6i e, Nat.le_of_eq (b2z _ _), trivial, fun b hb => absurd (show b ∈ ([] : List Addr) from hb) (by simp), hok, .of_eq hg⟩
  refine codeAny_mono ((F _ hKb (nsK hns)).run callerA [] s₁ H ⟨[.ref a], []⟩ [.ref a] [.ref a] _ _ hr e0 (hbind s₁ (.ref a)) (.cons rfl .nil) (hsp H hO hS)) fun r s' h => ?_
  cases r with
  | error e => exact (hCX H e s' h).elim
  | ok fl =>
    cases fl with
    | next => exact False.elim h
    | brk => exact False.elim h
    | cont => exact False.elim h
    | ret u =>
      obtain ⟨v, H', os, bare, un, hok', r', q⟩ := h
      have q' : v = .bl true := q
      subst q'
      obtain rfl : u = Value.bool true := r'
      refine ⟨rfl, OldK.of_keep fun b o e => ?_, os, bare⟩
      cases q : H b with
      | none => exact un.keep b o e q (by intro z; exact absurd (show b ∈ ([] : List Addr) from z) (by simp)) (by simp)
      | some u =>
        rcases hO b with z | ⟨ob, xs, z⟩
        ·rw [q] at z; cases z
        ·have z2 := un.frzs b ob _ z
         obtain ⟨e1, _⟩ := hok b _ z
         obtain ⟨e2, _⟩ := hok' b _ z2
         rw [e] at e1; cases e1
         exact e2
 cases hk : K.lookup a with
 | some o =>
   -- the script is one of the module's own objects
   have e := KX a o hk
   rw [ha] at e
   cases e
   refine core (fun _ => none) (fun _ => .inl rfl) (.inr ⟨_, vs.toArray, _, hk, rfl, rfl, rfl, by rw [List.size_toArray, lenV]; exact hl, by simpa using rv⟩) (fun b u z => by have z' : (none : Option HO) = some u := z; cases z') (fun b z => absurd rfl z) fun z => absurd rfl z
 | none =>
   refine core (fun b => if b = a then some (.frz { cls := .type "list", data := .seq vs.toArray } (.lst (ns.map V.int))) else none) (fun b => ?_) (.inl (.inr ⟨{ cls := .type "list", data := .seq vs.toArray }, if_pos rfl⟩)) (fun b u z => ?_) (fun b z => ?_) fun _ => hk
   ·by_cases hb : b = a
    ·exact .inr ⟨_, _, if_pos hb⟩
    ·exact .inl (if_neg hb)
   ·by_cases hb : b = a
    ·have z' := (if_pos hb).symm.trans z
     cases z'
     subst hb
     exact ⟨ha, by rw [List.length_map]; exact hl, vs, _, rv, ha⟩
    ·have z' := (if_neg hb).symm.trans z
     cases z'
   ·by_cases hb : b = a
    ·exact hb
    ·exact absurd (if_neg hb) z
theorem b5j {l : PySem.W.OpenLaw} {n k : Nat} {q : Program} {loose : List Str} {XP : (Str → Option Value) → Heap → Prop} {YP : World → Heap → Prop} {d : DefRec} {K : Params → PySem.W.Frag} {CX : World → CXT} {sp : World → Sp} {x : Str}
  (hn : l.most = some n) (hn2 : n ≤ sizeLine) (hdf : d.params.defaults = []) (hr : Room k callerA)
  (hY : ∀ (w : World) (h : Heap), YP w h → (K w.params).In h)
  (F : ∀ (w : World) (mg : Str → Option Value) (fa : Addr) (h : Heap), (K w.params).In h → h.Ns mainGlobals mg → mg d.name = some (.ref fa) →
   ∃ fd : FuncData, (∀ (s : Shared) (u : Value), BindsTo s fd ⟨[u], []⟩ [(x, u)]) ∧
     ∀ base : Heap, (K w.params).In base → base.Ns mainGlobals mg → FnOk l.prog w (K w.params) mg base (CX w) k fa fd [x] (sp w))
  (hsp : ∀ (w : World) (H : Hp) (a : Addr) (ns : List Int), ns.length ≤ n → Only H → SqL (K w.params) H a (ns.map V.int) → sp w [.ref a] H (fun v _ => v = .bl true) fun _ _ _ => False)
  (hCX : ∀ (w : World) (H : Hp) (s : Shared) (e : Value) (s' : Shared), CX w [] H s (fun _ _ _ => False) e s' → False) :
  PySem.W.WalkO q loose XP YP l.row.toRowW d [] (fun f vs => PySem.call f vs) := by
 refine Att.attach_call hn hdf fun w s₀ s₁ mg mb fa o pm cd doc a vs ns G Y ho hd hcd hmg hobj hints hlen hg => ?_
 have KX := hY w _ Y
 obtain ⟨fd, hb, hF⟩ := F w mg fa _ KX G.T.g hmg
 exact b4c KX G.T.g G.T.b G.T.builtins G.T.nolimit hg hobj hints (Nat.le_trans hlen hn2) hr hF hb (fun H hO hS => hsp w H a ns hlen hO hS) fun H e s' => hCX w H s₁ e s'
noncomputable def a4E (s : Stmt) : Arguments := match s with
 | .FunctionDef _ a _ _ _ _ _ _ _ _ => a
 | _ => { posonlyargs := [], args := [], vararg := none, kwonlyargs := [], kw_defaults := [], kwarg := none, defaults := [] }
noncomputable def a2U (s : Stmt) : List Stmt := match s with
 | .FunctionDef _ _ b _ _ _ _ _ _ _ => b
 | _ => []
noncomputable def a0c (s : Stmt) : Scope := match s with
 | .FunctionDef _ _ _ _ _ _ sc _ _ _ => sc
 | _ => { kind := .function, names := [], isGenerator := false, isCoroutine := false }
noncomputable abbrev CX0 : CXT := fun _ _ _ _ _ _ => False
noncomputable abbrev E0 : XK := fun _ _ _ => False
theorem b9K {X : Cx} : b3l CX0 X E0 := fun _ _ _ _ _ _ _ h => h.elim
structure Fun (K : PySem.W.Frag) (x qual : Str) (st : Stmt) (f : Addr) (fd : FuncData) : Prop where
 ex : ∃ (oc : Value) (od : Option Addr) (kV doc pm : Value) (an : Option Addr) (cdv ct : Value) (osl : Array (Option Value)),
  fd = PySem.W.fnOf x qual (a4E st) (a2U st) (a0c st) .none kV doc pm an cdv ct ∧ K.lookup f = some ⟨oc, od, .func fd, osl⟩ ∧ PySem.W.codeIn K cdv qual = true
 kp : PySem.W.keepIn K (.ref f) = true
section
variable {P : Program} {w : World} {K : PySem.W.Frag} {mg : Str → Option Value} {base : Heap}
theorem Fun.ok {x qual : Str} {st : Stmt} {f : Addr} {fd : FuncData} {N ps : List Str} {k : Nat} {sp : Sp} (F : Fun K x qual st f fd) (S : FnScope N ps (a0c st)) (len : ∀ vs H Q E, sp vs H Q E → vs.length = ps.length)
  (hbody : ∀ (cdv : Value) (A : Around) (outer : List Env) (s : Shared) (H : Hp) (vs : List V) (Q : VK) (E : XK), Room k (A.deeper (envOfC qual (a0c st) s.heap.objs.size f cdv)) → sp vs H Q E →
   ∃ t, PSs (cxOf CX0 P w K mg base N qual (a0c st) f cdv A outer s H E).nox (a2U st) t ∧ t { nx := fun _ H' => Q .non H', rt := Q } (start N vs) H) : FnOk P w K mg base CX0 (k + 1) f fd ps sp := by
 obtain ⟨oc, od, kV, doc, pm, an, cdv, ct, osl, rfl, lk, hcd⟩ := F.ex
 refine c0a lk hcd S len fun A outer s H vs Q E hr hsp => ?_
 obtain ⟨t, h, q⟩ := hbody cdv A outer s H vs Q E hr hsp
 exact ⟨t, h.nox, q⟩
theorem Fun.binds {x qual : Str} {st : Stmt} {f : Addr} {fd : FuncData} {ps : List Str} (F : Fun K x qual st f fd)
  (h : ∀ (kV doc pm : Value) (an : Option Addr) (cdv ct : Value) (us : List Value), us.length = ps.length → bindArgs (PySem.W.fnOf x qual (a4E st) (a2U st) (a0c st) .none kV doc pm an cdv ct) ⟨us, []⟩ = pure (ps.zip us)) : a0V K fd ps [] := by
 obtain ⟨oc, od, kV, doc, pm, an, cdv, ct, osl, rfl, lk, hcd⟩ := F.ex
 exact .all (h kV doc pm an cdv ct)
theorem a0y {x qual : Str} {st : Stmt} {f : Addr} {oc : Value} {od an : Option Addr} {osl : Array (Option Value)} {kV doc pm cdv ct : Value} (l : K.lookup f = some ⟨oc, od, .func (PySem.W.fnOf x qual (a4E st) (a2U st) (a0c st) .none kV doc pm an cdv ct), osl⟩)
  (c : PySem.W.codeIn K cdv qual = true) (k : PySem.W.keepIn K (.ref f) = true) : Fun K x qual st f (PySem.W.fnOf x qual (a4E st) (a2U st) (a0c st) .none kV doc pm an cdv ct) := ⟨⟨oc, od, kV, doc, pm, an, cdv, ct, osl, rfl, l, c⟩, k⟩
end
section
variable {X : Cx}
end
theorem ite2 {c A B : Prop} [Decidable c] (h1 : c → A) (h2 : ¬ c → B) : if c then A else B := by
 by_cases h : c
 ·rw [if_pos h]
  exact h1 h
 ·rw [if_neg h]
  exact h2 h
end L2
set_option maxHeartbeats 0
namespace L2
open PySem PySem.Spec PyProof.Rows
section
variable {κ : Type} [DecidableEq κ]
noncomputable def valV (kvs : List (κ × V)) (k : κ) : Option V := (kvs.find? fun kv => decide (kv.1 = k)).map (·.2)
noncomputable def putK (kvs : List (κ × V)) (k : κ) (v : V) : List (κ × V) :=
 if (kvs.any fun kv => decide (kv.1 = k)) = true then kvs.map (fun kv => if kv.1 = k then (kv.1, v) else kv) else kvs ++ [(k, v)]
theorem a6n {p : κ × V} {r : List (κ × V)} {k : κ} (e : p.1 = k) : valV (p :: r) k = some p.2 := by simp [valV, List.find?_cons, e]
theorem a6o {p : κ × V} {r : List (κ × V)} {k : κ} (e : ¬ p.1 = k) : valV (p :: r) k = valV r k := by simp [valV, List.find?_cons, e]
theorem a9n (k : κ) : ∀ kvs : List (κ × V), (kvs.any fun kv => decide (kv.1 = k)) = (valV kvs k).isSome
 | [] => rfl
 | p :: r => by
   rw [List.any_cons]
   by_cases e : p.1 = k
   ·simp only [a6n e, decide_eq_true e, Bool.true_or, Option.isSome_some]
   ·rw [a6o e, decide_eq_false e, Bool.false_or]; exact a9n k r
theorem a3P (kvs : List (κ × V)) (k : κ) (v : V) : (putK kvs k v).length ≤ kvs.length + 1 := by
 unfold putK
 split
 ·rw [List.length_map]; lia
 ·rw [List.length_append, List.length_cons, List.length_nil]; lia
theorem RelO.isSome_eq {o : Option V} {u : Option Value} (r : RelO o u) : o.isSome = u.isSome := by
 cases o with
 | none => cases u with
   | none => rfl
   | some _ => exact (show False from r).elim
 | some _ => cases u with
   | none => exact (show False from r).elim
   | some _ => rfl
theorem RelO.getD {o : Option V} {u : Option Value} {d : V} {d' : Value} (r : RelO o u) (rd : RelV d d') : RelV (o.getD d) (u.getD d') := by
 cases o with
 | none => cases u with
   | none => exact rd
   | some _ => exact (show False from r).elim
 | some _ => cases u with
   | none => exact (show False from r).elim
   | some _ => exact r
theorem KV.val {kvs : List (κ × V)} {vs : List (κ × Value)} (r : KV kvs vs) (k : κ) : RelO (valV kvs k) (valueAt vs k) := by
 unfold KV at r
 induction r with
 | nil => exact True.intro
 | @cons p q ps qs h t ih =>
   obtain ⟨h1, h2⟩ := h
   by_cases e : p.1 = k
   ·have e' : q.1 = k := h1.symm.trans e
    have b : valueAt (q :: qs) k = some q.2 := by simp [valueAt, List.find?_cons, e']
    rw [a6n e, b]; exact h2
   ·have e' : ¬ q.1 = k := fun z => e (h1.trans z)
    have b : valueAt (q :: qs) k = valueAt qs k := by simp [valueAt, List.find?_cons, e']
    rw [a6o e, b]; exact ih
theorem KV.any {kvs : List (κ × V)} {vs : List (κ × Value)} (r : KV kvs vs) (k : κ) : (kvs.any fun kv => decide (kv.1 = k)) = vs.any fun kv => decide (kv.1 = k) := by
 unfold KV at r
 induction r with
 | nil => rfl
 | cons h t ih => rw [List.any_cons, List.any_cons, ih, h.1]
theorem KV.repl {kvs : List (κ × V)} {vs : List (κ × Value)} (r : KV kvs vs) (k : κ) {y : V} {u : Value} (ry : RelV y u) :
  KV (kvs.map fun kv => if kv.1 = k then (kv.1, y) else kv) (vs.map fun kv => if kv.1 = k then (kv.1, u) else kv) := by
 unfold KV at r ⊢
 induction r with
 | nil => exact .nil
 | @cons p q ps qs h t ih =>
   rw [List.map_cons, List.map_cons]
   refine .cons ?_ ih
   obtain ⟨h1, h2⟩ := h
   by_cases e : p.1 = k
   ·rw [if_pos e, if_pos (h1.symm.trans e)]; exact ⟨h1, ry⟩
   ·rw [if_neg e, if_neg (fun z => e (h1.trans z))]; exact ⟨h1, h2⟩
theorem KV.put {kvs : List (κ × V)} {vs : List (κ × Value)} (r : KV kvs vs) (k : κ) {y : V} {u : Value} (ry : RelV y u) : KV (putK kvs k y) (stored vs k u) := by
 unfold putK stored
 rw [r.any k]
 by_cases e : (vs.any fun kv => decide (kv.1 = k)) = true
 ·rw [if_pos e, if_pos e]; exact r.repl k ry
 ·rw [if_neg e, if_neg e]; exact Paired.snoc r ⟨rfl, ry⟩
theorem KV.keys {kvs : List (κ × V)} {vs : List (κ × Value)} (r : KV kvs vs) : kvs.map (·.1) = vs.map (·.1) := by
 unfold KV at r
 induction r with
 | nil => rfl
 | cons h t ih => rw [List.map_cons, List.map_cons, ih, h.1]
theorem KV.length {kvs : List (κ × V)} {vs : List (κ × Value)} (r : KV kvs vs) : kvs.length = vs.length := Paired.length r
end
theorem b2n {P : Program} {w : World} {k : Key} {u : Value} (r : RelV (kV k) u) : (a0F P w).is k u = true := by
 cases k with
 | inl i => obtain ⟨t, e⟩ := (show ∃ t, u = Value.int i t from r); subst e; exact a8R P w i t
 | inr x => obtain ⟨t, e⟩ := (show ∃ t, u = Value.str x t from r); subst e; exact a8Q P w x t
theorem a7Q {P : Program} {w : World} : ∀ {ks : List Key} {us : List Value}, Vals (ks.map kV) us → ItemsAre (a0F P w) ks us
 | [], _, r => by rw [List.map_nil] at r; cases r; exact .nil
 | k :: ks, _, r => by
   rw [List.map_cons] at r
   cases r with
   | cons h t => exact .cons (b2n h) (a7Q t)
noncomputable abbrev KT (H : Hp) : List (List Key × V) → List (List Key × Addr × Value) → Prop := Paired fun p q => p.1 = q.1 ∧ H q.2.1 = some (.tup (p.1.map kV)) ∧ RelV p.2 q.2.2
theorem KT.val {H : Hp} {kvs : List (List Key × V)} {xs : List (List Key × Addr × Value)} (r : KT H kvs xs) (k : List Key) : RelO (valV kvs k) ((atKey xs k).map (·.2)) := by
 induction r with
 | nil => exact True.intro
 | @cons p q ps qs h t ih =>
   obtain ⟨h1, _, h2⟩ := h
   by_cases e : p.1 = k
   ·have e' : q.1 = k := h1.symm.trans e
    have b : atKey (q :: qs) k = some q.2 := by simp [atKey, List.find?_cons, e']
    rw [a6n e, b]; exact h2
   ·have e' : ¬ q.1 = k := fun z => e (h1.trans z)
    have b : atKey (q :: qs) k = atKey qs k := by simp [atKey, List.find?_cons, e']
    rw [a6o e, b]; exact ih
theorem KT.repl {H : Hp} {kvs : List (List Key × V)} {xs : List (List Key × Addr × Value)} (r : KT H kvs xs) (k : List Key) {y : V} {u : Value} (ry : RelV y u) :
  KT H (kvs.map fun kv => if kv.1 = k then (kv.1, y) else kv) (xs.map (putAt k u)) := by
 induction r with
 | nil => exact .nil
 | @cons p q ps qs h t ih =>
   rw [List.map_cons, List.map_cons]
   refine .cons ?_ ih
   obtain ⟨h1, h2, h3⟩ := h
   unfold putAt
   by_cases e : p.1 = k
   ·rw [if_pos e, if_pos (h1.symm.trans e)]; exact ⟨h1, h2, ry⟩
   ·rw [if_neg e, if_neg (fun z => e (h1.trans z))]; exact ⟨h1, h2, h3⟩
theorem KT.put {H : Hp} {kvs : List (List Key × V)} {xs : List (List Key × Addr × Value)} (r : KT H kvs xs) (k : List Key) {b : Addr} {y : V} {u : Value} (hb : H b = some (.tup (k.map kV))) (ry : RelV y u) :
  KT H (putK kvs k y) (storedH xs k b u) := by
 have e : (kvs.any fun kv => decide (kv.1 = k)) = (atKey xs k).isSome := by
  rw [a9n, (r.val k).isSome_eq, Option.isSome_map]
 unfold putK storedH
 rw [e]
 by_cases q : (atKey xs k).isSome = true
 ·rw [if_pos q, if_pos q]; exact r.repl k ry
 ·rw [if_neg q, if_neg q]; exact Paired.snoc r ⟨rfl, hb, ry⟩
theorem KT.keeps {H H' : Hp} {kvs : List (List Key × V)} {xs : List (List Key × Addr × Value)} (r : KT H kvs xs) (ht : ∀ b ys, H b = some (.tup ys) → H' b = some (.tup ys)) : KT H' kvs xs :=
 Paired.mapP r fun _ _ z => ⟨z.1, ht _ _ z.2.1, z.2.2⟩
section
variable {P : Program} {w : World} {H : Hp} {h : Heap} {a : Addr}
theorem b7C {u : HO} (ok : HOk P w H h) (e : Rd H a u) : a0R P w H h a u := e.ok ok
theorem b0V {kvs : List (Key × V)} (ok : HOk P w H h) (e : Rd H a (.dK kvs)) : kvs.length ≤ sizeLine ∧ (a == sysModules) = false ∧ ∃ vs, KV kvs vs ∧ h.DictOf (a0F P w) a vs :=
 show a0R P w H h a (.dK kvs) from b7C ok e
theorem c0d {kvs : List (Key × V)} (ok : HOk P w H h) (e : H a = some (.dK kvs)) : kvs.length ≤ sizeLine ∧ (a == sysModules) = false ∧ ∃ vs, KV kvs vs ∧ h.DictOf (a0F P w) a vs := b0V ok (.inl e)
theorem a6d {ks : List Key} (ok : HOk P w H h) (e : H a = some (.tup (ks.map kV))) : (tupleKind (a0F P w)).is h ks a := by
 obtain ⟨_, its, r, o, h1, h2, _, n, h3⟩ := (show a0R P w H h a (.tup (ks.map kV)) from ok a _ e)
 exact ⟨o, its.toArray, n, h1, h2, h3, by simpa using a7Q r⟩
theorem b0U {kvs : List (List Key × V)} (ok : HOk P w H h) (e : Rd H a (.dT kvs)) : kvs.length ≤ sizeLine ∧ (a == sysModules) = false ∧
  ∃ xs, KT H kvs xs ∧ h.DictOfH (tupleKind (a0F P w)) a xs := by
 obtain ⟨z, y, xs, r, o, es, ep, h1, h2, h3, h4, h5⟩ := (show a0R P w H h a (.dT kvs) from b7C ok e)
 refine ⟨z, y, xs, r, o, es, ep, h1, h2, h3, h4, fun x hx => ?_, h5⟩
 have all : ∀ {l : List (List Key × V)} {m : List (List Key × Addr × Value)}, KT H l m → ∀ x ∈ m, (tupleKind (a0F P w)).is h x.1 x.2.1 := by
  intro l m q
  induction q with
  | nil => intro x hx; exact nomatch hx
  | @cons p q ps qs hq t ih =>
    intro x hx
    rcases List.mem_cons.mp hx with e | hx
    ·subst e
     exact a6d ok (by rw [← hq.1]; exact hq.2.1)
    ·exact ih x hx
 exact all r x hx
theorem b8M {kvs : List (List Key × V)} (ok : HOk P w H h) (e : H a = some (.dT kvs)) : kvs.length ≤ sizeLine ∧ (a == sysModules) = false ∧
  ∃ xs, KT H kvs xs ∧ h.DictOfH (tupleKind (a0F P w)) a xs := b0U ok (.inl e)
end
noncomputable def DGet (H : Hp) (a : Addr) (y : V) (r : Option V) : Prop :=
 (∃ kvs k, Rd H a (.dK kvs) ∧ y = kV k ∧ r = valV kvs k) ∨ ∃ kvs k b, Rd H a (.dT kvs) ∧ y = .ref b ∧ H b = some (.tup (k.map kV)) ∧ r = valV kvs k
noncomputable def DPut (H : Hp) (a : Addr) (y v : V) (H' : Hp) : Prop :=
 (∃ kvs k, H a = some (.dK kvs) ∧ y = kV k ∧ kvs.length < sizeLine ∧ H' = upd H a (.dK (putK kvs k v))) ∨
 ∃ kvs k b, H a = some (.dT kvs) ∧ y = .ref b ∧ H b = some (.tup (k.map kV)) ∧ kvs.length < sizeLine ∧ H' = upd H a (.dT (putK kvs k v))
theorem DGet.k {H : Hp} {a : Addr} {kvs : List (Key × V)} {k : Key} (e : H a = some (.dK kvs)) : DGet H a (kV k) (valV kvs k) := .inl ⟨kvs, k, .inl e, rfl, rfl⟩
theorem DGet.t {H : Hp} {a b : Addr} {kvs : List (List Key × V)} {k : List Key} (e : H a = some (.dT kvs)) (eb : H b = some (.tup (k.map kV))) : DGet H a (.ref b) (valV kvs k) := .inr ⟨kvs, k, b, .inl e, rfl, eb, rfl⟩
theorem DPut.k {H : Hp} {a : Addr} {kvs : List (Key × V)} {k : Key} {v : V} (e : H a = some (.dK kvs)) (hl : kvs.length < sizeLine) : DPut H a (kV k) v (upd H a (.dK (putK kvs k v))) := .inl ⟨kvs, k, e, rfl, hl, rfl⟩
theorem DPut.t {H : Hp} {a b : Addr} {kvs : List (List Key × V)} {k : List Key} {v : V} (e : H a = some (.dT kvs)) (eb : H b = some (.tup (k.map kV))) (hl : kvs.length < sizeLine) :
  DPut H a (.ref b) v (upd H a (.dT (putK kvs k v))) := .inr ⟨kvs, k, b, e, rfl, eb, hl, rfl⟩
section
variable {X : Cx} {pins : List (Addr × Obj)} {σ : St} {H : Hp} {s : Shared} {a : Addr} {y v : V} {u r : Value} {o : Option V} {A : Around} {E : Value → Shared → Prop}
theorem Inv.big (I : Inv X pins σ H s) : sysModules < s.heap.objs.size := by
 have h : mainGlobals < s.heap.objs.size := (I.mod.glob.keeps I.bk).lt
 exact Nat.lt_trans (by decide) h
theorem b2R {Q : Value → Shared → Prop} (hu : A.units + 1 < cLine) (I : Inv X pins σ H s) (g : DGet H a y (some v)) (ry : RelV y u) (h : ∀ w' s', Inv X pins σ H s' → RelV v w' → Q w' s') :
  wpAny (model X.prog X.w) A (getItem (.ref a) u) Q E s := by
 rcases g with ⟨kvs, k, e, ey, l⟩ | ⟨kvs, k, b, e, ey, eb, l⟩
 ·subst ey
  obtain ⟨z, hd, vs, rel, dd⟩ := b0V I.hok e
  obtain ⟨w', hw, rw'⟩ := RelO.some_of (v := v) (o := valueAt vs k) (by rw [l]; exact rel.val k)
  exact wpAny_getItem_of (b2n ry) dd.mapOf hw (h w' _ (I.tok _) rw')
 ·subst ey
  cases (show u = Value.ref b from ry)
  obtain ⟨z, hd, xs, rel, dd⟩ := b0U I.hok e
  obtain ⟨w', hw, rw'⟩ := RelO.some_of (v := v) (o := (atKey xs k).map (·.2)) (by rw [l]; exact rel.val k)
  obtain ⟨p, hp, hp2⟩ := Option.map_eq_some_iff.mp hw
  refine wpAny_getItem_heap (tupleKind_room_in1 hu) (a6d I.hok eb) dd hp ?_
  rw [hp2]
  exact h w' _ (I.tok _) rw'
theorem b6H {Q : Value → Shared → Prop} (hu : A.units + 1 < cLine) (I : Inv X pins σ H s) (g : DGet H a y o) (ry : RelV y u) (h : ∀ s', Inv X pins σ H s' → Q (.bool (!o.isSome)) s') :
  wpAny (model X.prog X.w) A (compareOp .NotIn u (.ref a)) Q E s := by
 rcases g with ⟨kvs, k, e, ey, l⟩ | ⟨kvs, k, b, e, ey, eb, l⟩
 ·subst ey
  obtain ⟨z, hd, vs, rel, dd⟩ := b0V I.hok e
  refine wpAny_notIn_of (b2n ry) hd dd.mapOf ?_
  rw [← (rel.val k).isSome_eq, ← l]
  exact h _ (I.tok _)
 ·subst ey
  cases (show u = Value.ref b from ry)
  obtain ⟨z, hd, xs, rel, dd⟩ := b0U I.hok e
  refine wpAny_notIn_heap (tupleKind_room_in1 hu) (a6d I.hok eb) hd dd ?_
  have q := (rel.val k).isSome_eq
  rw [Option.isSome_map] at q
  rw [← q, ← l]
  exact h _ (I.tok _)
theorem a9d {h' : Heap} {t' : Nat} {ob : HO} (I : Inv X pins σ H s) (mu : Mut (H a)) (hs : Heap.SameBut a s.heap h') (he : ∃ q, h'.get? a = some q) (new : a0R X.prog X.w (upd H a ob) h' a ob) :
  Inv X pins σ (upd H a ob) { s with heap := h', toks := t' } :=
 I.write (x := a) (e := a) mu (.inl rfl) (fun b q hb z => (hs.2 b hb).trans z) he new
theorem b8N {P : Program} {w : World} {H' : Hp} {h' : Heap} {kvs : List (Key × V)} {vs : List (Key × Value)} (z : kvs.length ≤ sizeLine) (hd : (a == sysModules) = false) (rel : KV kvs vs) (dd : h'.DictOf (a0F P w) a vs) :
  a0R P w H' h' a (.dK kvs) := ⟨z, hd, vs, rel, dd⟩
theorem b2Q {H' : Hp} {Q : Unit → Shared → Prop} (hu : A.units + 1 < cLine) (I : Inv X pins σ H s) (g : DPut H a y v H') (ry : RelV y u) (rv : RelV v r) (h : ∀ s', Inv X pins σ H' s' → Q () s') :
  wpAny (model X.prog X.w) A (setItem (.ref a) u r) Q E s := by
 rcases g with ⟨kvs, k, e, ey, l, eH⟩ | ⟨kvs, k, b, e, ey, eb, l, eH⟩
 ·subst ey eH
  obtain ⟨z, hd, vs, rel, dd⟩ := c0d I.hok e
  have hz : vs.length ≤ sizeLine := by rw [← rel.length]; exact z
  have hl : (putK kvs k v).length ≤ sizeLine := by have := a3P kvs k v; lia
  refine wpAny_setItem_pairs (hsz := hz) (b2n ry) dd fun h' dd' hs => h _ ?_
  have he : ∃ q, h'.get? a = some q := let ⟨q, _, _, hq, _⟩ := dd'; ⟨q, hq⟩
  exact a9d I (by rw [e]; exact True.intro) hs he (b8N hl hd (rel.put k rv) dd')
 ·subst ey eH
  cases (show u = Value.ref b from ry)
  obtain ⟨z, hd, xs, rel, dd⟩ := b8M I.hok e
  have hz : xs.length ≤ sizeLine := by rw [← Paired.length rel]; exact z
  have hl : (putK kvs k v).length ≤ sizeLine := by have := a3P kvs k v; lia
  refine wpAny_setItem_heap (hsz := hz) (tupleKind_room_in1 hu) (a6d I.hok eb) dd fun h' dd' hs => h _ ?_
  obtain ⟨q, es, ep, hq, h2, h3, h4, _, h5⟩ := dd'
  refine a9d I (by rw [e]; exact True.intro) hs ⟨q, hq⟩ ⟨hl, hd, _, (rel.put k eb rv).keeps fun c ys ec => ?_, q, es, ep, hq, h2, h3, h4, h5⟩
  rw [a0l (b6k ec e (fun z => nomatch z))]
  exact ec
end
section
variable {X : Cx} {pins : List (Addr × Obj)} {σ : St} {H : Hp} {s : Shared} {a : Addr} {kvs : List (Key × V)} {k : Key} {u : Value} {A : Around} {E : Value → Shared → Prop}
end
noncomputable def NoSl (i : Expr) : Prop := ∀ ov iv, subscripted i false ov iv = operate [ov, iv] (getItem ov iv)
theorem b5r {prog : Program} {w : World} {A : Around} {E : Value → Shared → Prop} {s : Shared} {env : Env} {value slice : Expr} {pos : Pos} {T id : String} {Q : Value → Shared → Prop}
  (hl : typeLookup (.type T) "__getitem__" = pure (some (.builtin id))) (hs : NoSl slice)
  (h : wpAny (model prog w) A (eval value env) (fun o s₁ => wpAny (model prog w) A (eval slice env) (fun i s₂ => s₂.TypeIs o T ∧ wpAny (model prog w) A (getItem o i) Q E s₂) E s₁) E s) :
  wpAny (model prog w) A (eval (.Subscript value slice pos) env) Q E s := by
 refine Subscript_ (wpAny_mono h (fun o s₁ h₁ => wpAny_mono h₁ (fun i s₂ h₂ => ?_) fun _ _ x => x) fun _ _ x => x)
 obtain ⟨hT, h₂⟩ := h₂
 unfold subscriptTail
 refine wpAny_bind ?_
 rw [getitemInPython_of_ne hT.not_modules]
 refine wpAny_bind (wpAny_specialOf hT hl ?_)
 have fin : wpAny (model prog w) A (subscripted slice false o i) (fun r s₃ => wpAny (model prog w) A (letTemporaryGo value o r >>= fun _ => pure r) Q E s₃) E s₂ := by
  rw [hs o i]
  exact wpAny_operating (wpAny_mono h₂ (fun r s₃ h₃ => wpAny_bind (wpAny_letTemporaryGo (wpAny_pure h₃))) fun _ _ x => x)
 first
  | exact wpAny_pure (wpAny_bind fin)
  | exact wpAny_bind (wpAny_pure (wpAny_bind fin))
  | exact wpAny_bind fin
theorem a9c {X : Cx} {pins : List (Addr × Obj)} {σ : St} {H : Hp} {s : Shared} {a : Addr} {y : V} {o : Option V} (I : Inv X pins σ H s) (g : DGet H a y o) : s.TypeIs (.ref a) "dict" := by
 rcases g with ⟨kvs, k, e, _, _⟩ | ⟨kvs, k, b, e, _, _, _⟩
 ·obtain ⟨_, _, vs, _, dd⟩ := b0V I.hok e
  exact dd.typeIs
 ·obtain ⟨_, _, xs, _, dd⟩ := b0U I.hok e
  exact dd.typeIs
noncomputable def b9q (td ty : TE) : TE := fun σ H Q => td σ H fun x H1 => ty σ H1 fun y H2 => ∃ a v, x = .ref a ∧ DGet H2 a y (some v) ∧ Q v H2
noncomputable def b9y (td ty tv : TE) : TS := fun D σ H => tv σ H fun v H1 => td σ H1 fun x H2 => ty σ H2 fun y H3 => ∃ a H4, x = .ref a ∧ DPut H3 a y v H4 ∧ D.nx σ H4
section
variable {X : Cx} {o i e value : Expr} {pos pos' tpos : Pos} {td ty tv : TE}
theorem b5Z (hu : X.A.units + 1 < cLine) (ho : PE X o td) (hi : PE X i ty) (hs : NoSl i) : PE X (.Subscript o i pos) (b9q td ty) := by
 intro pins s σ H Q I h
 refine b5r PySem.F.slot_dict_getitem.lookup hs (thn (ho pins s σ H _ I h) fun u s1 ⟨x, H1, I1, rx, q1⟩ => thn (hi pins s1 σ H1 _ I1 q1) fun iv s2 ⟨y, H2, I2, ry, a, v, ex, g, q2⟩ => ?_)
 subst ex
 obtain rfl : u = Value.ref a := rx
 exact ⟨a9c I2 g, b2R hu I2 g ry fun w' s3 I3 rw' => ⟨v, H2, I3, rw', q2⟩⟩
theorem b1J (hu : X.A.units + 1 < cLine) (ho : PE X o td) (hi : PE X i ty) (hv : PE X value tv) (hs : swapsWith value (some (.Subscript o i pos')) pos.line X.env = pure false) :
  PS X (.Assign [.Subscript o i pos'] value pos) (b9y td ty tv) := by
 intro pins s σ H D I h
 refine wpAny_Assign_Subscript (thn (hv pins s σ H _ I h) fun r s1 ⟨v, H1, I1, rv, q1⟩ => thn (ho pins s1 σ H1 _ I1 q1) fun u s2 ⟨x, H2, I2, rx, q2⟩ => thn (hi pins s2 σ H2 _ I2 q2) fun iv s3 ⟨y, H3, I3, ry, a, H4, ex, g, q3⟩ => ?_) hs
 subst ex
 obtain rfl : u = Value.ref a := rx
 exact b2Q hu I3 g ry rv fun s4 I4 => ⟨σ, H4, I4, q3⟩
end
theorem b4p {P : Program} {w : World} {H : Hp} (h : Heap) (hb : sysModules < h.objs.size) : a0R P w H (h.push { cls := .type "dict", data := .dict #[] }) h.objs.size (.dK []) :=
 ⟨Nat.zero_le _, beq_eq_false_iff_ne.mpr (Ne.symm (Nat.ne_of_lt hb)), [], .nil, Heap.DictOf.new h⟩
theorem b0a {P : Program} {w : World} {H : Hp} (h : Heap) (hb : sysModules < h.objs.size) : a0R P w H (h.push { cls := .type "dict", data := .dict #[] }) h.objs.size (.dT []) :=
 ⟨Nat.zero_le _, beq_eq_false_iff_ne.mpr (Ne.symm (Nat.ne_of_lt hb)), [], .nil, _, #[], 0, Heap.get?_push_size _ rfl, ⟨rfl, rfl, rfl⟩, rfl, rfl, List.nodup_nil⟩
noncomputable def b7p : TE := fun _ H Q => ∀ p, H p = none → Q (.ref p) (upd H p (.dK []))
noncomputable def b7o : TE := fun _ H Q => ∀ p, H p = none → Q (.ref p) (upd H p (.dT []))
section
variable {X : Cx} {pos : Pos}
theorem b3O : PE X (.Dict [] [] pos) b7p := fun pins s σ H Q I h =>
 wpAny_Dict_empty ⟨.ref s.heap.objs.size, _, I.laid (a := s.heap.objs.size) (o := .dK []) (t' := s.toks) (fun _ _ q => Heap.get?_push_of_some _ q) (Nat.le_refl _) (b4p s.heap I.big), rfl, h _ (I.hok.fresh (Nat.le_refl _))⟩
theorem b3N : PE X (.Dict [] [] pos) b7o := fun pins s σ H Q I h =>
 wpAny_Dict_empty ⟨.ref s.heap.objs.size, _, I.laid (a := s.heap.objs.size) (o := .dT []) (t' := s.toks) (fun _ _ q => Heap.get?_push_of_some _ q) (Nat.le_refl _) (b0a s.heap I.big), rfl, h _ (I.hok.fresh (Nat.le_refl _))⟩
end
structure M1 (X : Cx) (o : Expr) (m : Str) (apos : Pos) (e : Expr) (cpos : Pos) : Prop where
 base : attributeBase o m X.env (eval o X.env) = eval o X.env
 few : ((backTo cpos (starEach [e] X.env)).all (fun x => !x.1) && (backToKw cpos (keywordEach [] X.env)).all (fun x => x.1.isSome)
  && decide (([e] : List Expr).length + ([] : List Keyword).length + (if ([] : List Keyword).isEmpty then 0 else 1) < 30)) = true
 line : (apos.endLine == cpos.line) = true
 trees : backTo cpos (starEach [e] X.env) = [(false, eval e X.env)]
structure M2 (X : Cx) (o : Expr) (m : Str) (apos : Pos) (e f : Expr) (cpos : Pos) : Prop where
 base : attributeBase o m X.env (eval o X.env) = eval o X.env
 few : ((backTo cpos (starEach [e, f] X.env)).all (fun x => !x.1) && (backToKw cpos (keywordEach [] X.env)).all (fun x => x.1.isSome)
  && decide (([e, f] : List Expr).length + ([] : List Keyword).length + (if ([] : List Keyword).isEmpty then 0 else 1) < 30)) = true
 line : (apos.endLine == cpos.line) = true
 trees : backTo cpos (starEach [e, f] X.env) = [(false, eval e X.env), (false, eval f X.env)]
noncomputable def IsD (H : Hp) (a : Addr) : Prop := (∃ kvs, Rd H a (.dK kvs)) ∨ ∃ kvs, Rd H a (.dT kvs)
theorem b4O {X : Cx} {pins : List (Addr × Obj)} {σ : St} {H : Hp} {s : Shared} {a : Addr} (I : Inv X pins σ H s) (d : IsD H a) :
  s.TypeIs (.ref a) "dict" ∧ (∀ b, Value.ref a = .ref b → ∃ ob, s.heap.get? b = some ob ∧ ob.dict = none) ∧ (a == sysModules) = false := by
 rcases d with ⟨kvs, e⟩ | ⟨kvs, e⟩
 ·obtain ⟨_, hd, vs, _, dd⟩ := b0V I.hok e
  refine ⟨dd.typeIs, fun b q => ?_, hd⟩
  cases q
  obtain ⟨ob, _, _, h1, h2, _⟩ := dd
  exact ⟨ob, h1, h2.2.1⟩
 ·obtain ⟨_, hd, xs, _, dd⟩ := b0U I.hok e
  refine ⟨dd.typeIs, fun b q => ?_, hd⟩
  cases q
  obtain ⟨ob, _, _, h1, h2, _⟩ := dd
  exact ⟨ob, h1, h2.2.1⟩
section
variable {X : Cx} {pins : List (Addr × Obj)} {σ : St} {H : Hp} {s : Shared} {a : Addr} {y d : V} {u r : Value} {o : Option V} {A : Around} {E : Value → Shared → Prop}
theorem b8O {Q : Value → Shared → Prop} (hu : A.units + 1 < cLine) (I : Inv X pins σ H s) (g : DGet H a y o) (ry : RelV y u) (rd : RelV d r) (h : ∀ w' s', Inv X pins σ H s' → RelV (o.getD d) w' → Q w' s') :
  wpAny (model X.prog X.w) A (call (.builtin "dict.get") [.ref a, u, r]) Q E s := by
 rcases g with ⟨kvs, k, e, ey, l⟩ | ⟨kvs, k, b, e, ey, eb, l⟩
 ·subst ey
  obtain ⟨z, hd, vs, rel, dd⟩ := b0V I.hok e
  refine call_meetsIn PySem.F.slot_dict_get dd.typeIs PySem.F.entry_dict_get (PySem.F.args_dict_get_3 _ _ _) (meets_dict_get_default (a0F X.prog X.w) a (b2n ry) hd r) ⟨_, dd.mapOf, h _ _ (I.tok _) ?_⟩
  rw [l]
  exact (rel.val k).getD rd
 ·subst ey
  cases (show u = Value.ref b from ry)
  obtain ⟨z, hd, xs, rel, dd⟩ := b0U I.hok e
  refine call_meetsIn PySem.F.slot_dict_get dd.typeIs PySem.F.entry_dict_get (PySem.F.args_dict_get_3 _ _ _) (meetsH_dict_get_default (tupleKind (a0F X.prog X.w)) a b hd r) ⟨tupleKind_room_in1 hu, k, xs, a6d I.hok eb, dd, h _ _ (I.tok _) ?_⟩
  rw [l]
  exact (rel.val k).getD rd
end
noncomputable def b7q (td ty tx : TE) : TE := fun σ H Q => td σ H fun x H1 => ∃ a, x = .ref a ∧ IsD H1 a ∧ ty σ H1 fun y H2 => tx σ H2 fun z H3 => ∃ o, DGet H3 a y o ∧ Q (o.getD z) H3
section
variable {X : Cx} {o e f : Expr} {apos cpos : Pos} {td ty tx : TE}
theorem a9z (hu : X.A.units + 1 < cLine) (ho : PE X o td) (he : PE X e ty) (hf : PE X f tx) (m : M2 X o "get" apos e f cpos) : PE X (.Call (.Attribute o "get" apos) [e, f] [] cpos) (b7q td ty tx) := by
 intro pins s σ H Q I h
 refine wpAny_Call_method m.base m.few m.line PySem.F.plainAttrs_dict PySem.F.slot_dict_get PySem.F.type_dict_get (thn (ho pins s σ H _ I h) fun u s1 ⟨x, H1, I1, rx, a, ex, d, q1⟩ => ?_)
 subst ex
 obtain rfl : u = Value.ref a := rx
 obtain ⟨t1, t2, _⟩ := b4O I1 d
 refine ⟨t1, t2, ?_⟩
 rw [m.trees]
 refine Calls.callWith_builtin rfl (Calls.evalArgs_plain (Calls.spliced_cons (thn (he pins s1 σ H1 _ I1 q1) fun iv s2 ⟨y, H2, I2, ry, q2⟩ =>
  Calls.spliced_cons (thn (hf pins s2 σ H2 _ I2 q2) fun fv s3 ⟨z, H3, I3, rz, ov, g, q3⟩ => Calls.spliced_nil ?_))))
 exact b8O hu I3 g ry rz fun w' s4 I4 rw' => ⟨_, H3, I4, rw', q3⟩
end
noncomputable def a3T (env : Env) : List (Str × NameKind) → List (Str × Addr) → List (Str × Addr)
 | [], acc => acc
 | (n, k) :: r, acc => a3T env r (if k == .free then (n, (env.cells.lookup n).getD 0) :: acc else acc)
theorem a2C (env : Env) (n : Str) (k : NameKind) (r : List (Str × NameKind)) (acc : List (Str × Addr)) : a3T env ((n, k) :: r) acc = a3T env r (if k == .free then (n, (env.cells.lookup n).getD 0) :: acc else acc) := rfl
theorem a2V (env : Env) (f : Str × NameKind → List (Str × Addr) → Sem (ForInStep (List (Str × Addr))))
  (hf : ∀ n k cs, f (n, k) cs = if (k == .free) = true then (do let a ← cellOf env n; pure (.yield ((n, a) :: cs))) else pure (.yield cs)) :
  ∀ (names : List (Str × NameKind)) (acc : List (Str × Addr)), (∀ y ∈ names, y.2 = .free → ∃ c, env.cells.lookup y.1 = some c) → forIn names acc f = (pure (a3T env names acc) : Sem _)
 | [], acc, _ => by rw [List.forIn_nil]; rfl
 | (n, k) :: r, acc, h => by
   rw [List.forIn_cons, hf]
   have hr : ∀ y ∈ r, y.2 = .free → ∃ c, env.cells.lookup y.1 = some c := fun y hy => h y (List.mem_cons_of_mem _ hy)
   by_cases hk : (k == NameKind.free) = true
   ·rw [if_pos hk]
    obtain ⟨c, hc⟩ := h (n, k) List.mem_cons_self (by simpa using hk)
    have hc' : env.cells.lookup n = some c := hc
    have e : cellOf env n = pure c := by unfold cellOf; rw [hc']
    rw [e]
    simp only [pure_bind]
    rw [a2V env f hf r _ hr]
    rw [a2C, if_pos hk, hc']
    rfl
   ·rw [if_neg hk]
    simp only [pure_bind]
    rw [a2V env f hf r _ hr]
    rw [a2C, if_neg hk]
theorem a7f (scope : Scope) (env : Env) (h : ∀ y ∈ scope.names, y.2 = .free → ∃ c, env.cells.lookup y.1 = some c) : closureFor scope env = pure (a3T env scope.names []) := by
 unfold closureFor
 dsimp only
 rw [a2V env _ (fun n k cs => by cases hk : (k == NameKind.free) <;> simp [hk] <;> rfl) scope.names [] h]
 rfl
theorem a3h (env : Env) : ∀ (names : List (Str × NameKind)) (acc : List (Str × Addr)) (x : Str) (c : Addr), (a3T env names acc).lookup x = some c →
  (acc.lookup x = some c ∨ ((x, .free) ∈ names ∧ c = (env.cells.lookup x).getD 0))
 | [], acc, x, c, h => .inl h
 | (n, k) :: r, acc, x, c, h => by
   rw [a2C] at h
   rcases a3h env r _ x c h with q | ⟨q1, q2⟩
   ·split at q
    ·rename_i hk
     have hk' : k = .free := by simpa using hk
     subst hk'
     rw [List.lookup_cons] at q
     split at q
     ·rename_i hx
      have : x = n := by simpa using hx
      subst this
      cases q
      exact .inr ⟨List.mem_cons_self, rfl⟩
     ·exact .inl q
    ·exact .inl q
   ·exact .inr ⟨List.mem_cons_of_mem _ q1, q2⟩
theorem a8e (env : Env) : ∀ (names : List (Str × NameKind)) (acc : List (Str × Addr)) (x : Str), (∃ c, acc.lookup x = some c) → ∃ c, (a3T env names acc).lookup x = some c
 | [], acc, x, h => h
 | (n, k) :: r, acc, x, h => by
   rw [a2C]
   refine a8e env r _ x ?_
   split
   ·rw [List.lookup_cons]
    split
    ·exact ⟨_, rfl⟩
    ·exact h
   ·exact h
theorem a5E (env : Env) : ∀ (names : List (Str × NameKind)) (acc : List (Str × Addr)) (x : Str), (x, NameKind.free) ∈ names → ∃ c, (a3T env names acc).lookup x = some c
 | [], acc, x, h => by simp at h
 | (n, k) :: r, acc, x, h => by
   rw [a2C]
   rcases List.mem_cons.mp h with e | h
   ·cases e
    refine a8e env r _ _ ?_
    rw [if_pos (by decide), List.lookup_cons]
    simp
   ·exact a5E env r _ x h
noncomputable def ownB (names : List (Str × NameKind)) (x : Str) : Bool := names.any fun y => y.1 == x && y.2 == .cell
theorem a9B {names : List (Str × NameKind)} {x : Str} : ownB names x = true ↔ (x, NameKind.cell) ∈ names := by
 unfold ownB
 rw [List.any_eq_true]
 constructor
 ·rintro ⟨⟨n, k⟩, h, e⟩
  simp only [Bool.and_eq_true, beq_iff_eq] at e
  obtain ⟨rfl, rfl⟩ := e
  exact h
 ·intro h
  exact ⟨_, h, by simp⟩
theorem a0E : ∀ (names : List (Str × NameKind)) (n : Nat) (acc : List (Str × Addr)), cellsFrom n names acc = cellsFrom n names [] ++ acc
 | [], _, _ => rfl
 | (x, k) :: r, n, acc => by
   unfold cellsFrom
   split
   ·rw [a0E r (n + 1) ((x, n) :: acc), a0E r (n + 1) [(x, n)], List.append_assoc]; rfl
   ·exact a0E r n acc
theorem a1E : ∀ (names : List (Str × NameKind)) (n : Nat) {x : Str} {c : Addr}, (x, c) ∈ cellsFrom n names [] → n ≤ c ∧ (x, NameKind.cell) ∈ names
 | [], _, _, _, h => nomatch h
 | (y, k) :: r, n, x, c, h => by
   unfold cellsFrom at h
   split at h
   ·rename_i hk
    have hk' : k = .cell := by simpa using hk
    subst hk'
    rw [a0E] at h
    rcases List.mem_append.mp h with h | h
    ·have := a1E r (n + 1) h
     exact ⟨by lia, List.mem_cons_of_mem _ this.2⟩
    ·cases List.mem_singleton.mp h
     exact ⟨Nat.le_refl _, List.mem_cons_self⟩
   ·have := a1E r n h
    exact ⟨this.1, List.mem_cons_of_mem _ this.2⟩
theorem a1T : ∀ (names : List (Str × NameKind)) (n : Nat) {x : Str}, (x, NameKind.cell) ∈ names → ((cellsFrom n names []).lookup x).isSome = true
 | [], _, _, h => nomatch h
 | (y, k) :: r, n, x, h => by
   unfold cellsFrom
   rcases List.mem_cons.mp h with e | h
   ·cases e
    rw [if_pos (by decide), a0E, List.lookup_append]
    cases hh : (cellsFrom (n + 1) r []).lookup y with
    | some c => rfl
    | none => simp
   ·have i0 := a1T r n h
    have i1 := a1T r (n + 1) h
    split
    ·rw [a0E, List.lookup_append]
     cases hh : (cellsFrom (n + 1) r []).lookup x with
     | some c => rfl
     | none => rw [hh] at i1; cases i1
    ·exact i0
theorem a2e : ∀ (names : List (Str × NameKind)) (n : Nat), (cellsFrom n names []).Pairwise fun x y => x.2 ≠ y.2
 | [], _ => List.Pairwise.nil
 | (y, k) :: r, n => by
   unfold cellsFrom
   split
   ·rw [a0E]
    refine List.pairwise_append.mpr ⟨a2e r (n + 1), List.pairwise_singleton _ _, fun a ha b hb => ?_⟩
    rw [List.mem_singleton.mp hb]
    have := (a1E r (n + 1) (x := a.1) (c := a.2) ha).1
    show a.2 ≠ n
    exact Nat.ne_of_gt (Nat.lt_of_succ_le this)
   ·exact a2e r n
theorem a4s {M : Model} {A : Around} {E : Value → Shared → Prop} {s : Shared} {scope : Scope} {globals : Addr} {closure : List (Str × Addr)} {qual : Str} {func : Option Addr} {code : Value} {around : Env} {builtins : Addr} {Q : Env → Shared → Prop}
  (hQ : ∀ h', h' = pushCells (s.heap.push { cls := .type "dict", data := .dict #[] }) scope.names → Q (newEnv scope s.heap.objs.size globals (cellsFrom (s.heap.objs.size + 1) scope.names [] ++ closure) qual func code (some around) builtins) { s with heap := h' }) :
  wpAny M A (newFunctionEnv scope globals closure [] qual func code (some around) builtins) Q E s := by
 simp only [newFunctionEnv, Option.isSome_some, if_true]
 refine wpAny_bind (wpAny_alloc ?_)
 refine wpAny_bind (wpAny_layCells _ (fun name kind cells => by cases hkc : kind == NameKind.cell <;> simp [hkc]) _ _ _ _ ?_)
 rw [a0E, show ({ s with heap := s.heap.push { cls := .type "dict", data := .dict #[] } } : Shared).heap.objs.size = s.heap.objs.size + 1 from Heap.size_push ..]
 refine wpAny_bind ?_
 rw [List.forIn_nil]
 exact wpAny_pure (wpAny_pure (hQ _ rfl))
section
variable {prog : Program} {w : World} {A : Around} {R : Result → Shared → Prop} {s : Shared}
theorem a3B {elt target iter : Expr} {ifs : List Expr} {scope : Scope} {pos : Pos} {it acc : Value} {env : Env} (I : Nat → Shared → Prop)
  (turn : ∀ n s, I n s → wpAny (model prog w) A (pyNext it) (fun r s₁ => match r with
   | none => R (.ok .next) s₁
   | some v => wpAny (model prog w) A (letOwnedTupleGo target it v) (fun _ s₁' => wpAny (model prog w) A (assign target env v) (fun _ s₂ =>
     wpAny (model prog w) A (forIn ifs true fun c r => if r = true then do let ok ← isTrue c env (eval c env); pure (ForInStep.yield ok) else pure (ForInStep.yield r)) (fun ok s₃ =>
      if ok = true then wpAny (model prog w) A (eval elt env) (fun x s₄ =>
       wpAny (model prog w) A (call (.builtin "list.append") [acc, x]) (fun _ s₅ => ∃ m, m < n ∧ I m s₅) (notedBy (model prog w) A env fun e s' => R (.error e) s') s₄) (notedBy (model prog w) A env fun e s' => R (.error e) s') s₃
      else ∃ m, m < n ∧ I m s₃) (notedBy (model prog w) A env fun e s' => R (.error e) s') s₂) (notedBy (model prog w) A env fun e s' => R (.error e) s') s₁') (notedBy (model prog w) A env fun e s' => R (.error e) s') s₁) (notedBy (model prog w) A env fun e s' => R (.error e) s') s)
  (n : Nat) (h : I n s) :
  codeAny (model prog w) A (.compLoop (.ListComp elt [⟨target, iter, ifs, 0⟩] scope pos) 0 it acc env) R s := by
 refine codeAny_loop rfl I (fun n s hI => ?_) n h
 show wpAny _ A ((compTurn (.ListComp elt [⟨target, iter, ifs, 0⟩] scope pos) 0 it acc env).onRaise (fun x => do noteFrame x env; theTreesLotGoes x)) _ _ s
 refine wpAny_noted ?_
 rw [compTurn_list]
 refine wpAny_bind (wpAny_standAt (wpAny_bind (wpAny_mono (turn n s hI) (fun r s₁ h₁ => ?_) fun _ _ h' => h')))
 cases r with
 | none => exact wpAny_pure h₁
 | some v =>
   refine wpAny_bind (wpAny_mono h₁ (fun _ s₁' h₁' => wpAny_bind (wpAny_mono h₁' (fun _ s₂ h₂ => wpAny_bind (wpAny_mono h₂ (fun ok s₃ h₃ => ?_) fun _ _ h' => h')) fun _ _ h' => h')) fun _ _ h' => h')
   cases ok with
   | false => exact wpAny_pure ⟨rfl, h₃⟩
   | true =>
     exact wpAny_bind (wpAny_bind (wpAny_mono h₃ (fun x s₄ h₄ => wpAny_bind (wpAny_mono h₄ (fun _ s₅ h₅ => wpAny_pure (wpAny_pure ⟨rfl, h₅⟩)) fun _ _ h' => h')) fun _ _ h' => h'))
end
noncomputable def blk (X : Cx) (N' : List Str) (scope : Scope) (C : Addr) (s : Shared) (H : Hp) (fp : List Addr) (pins : List (Addr × Obj)) : Cx where
 prog := X.prog
 w := X.w
 K := X.K
 mg := X.mg
 base := X.base
 A := X.A
 N := N'
 s₀ := s
 H₀ := H
 env := compEnvC scope (cellsFrom (C + 1) scope.names [] ++ a3T X.env scope.names []) C X.env
 outer := X.stack
 stack := X.stack
 ex := fp
 fn := ownB scope.names
 calm := X.calm
 pn := X.pn ++ pins
 xe := fun _ _ => False
structure BlkScope (X : Cx) (N' : List Str) (ix : List (Option Nat)) (scope : Scope) : Prop where
 kind : scope.kind = .function
 locs : ∀ y ∈ scope.names, y.2 = .local → scope.names.lookup y.1 = some .local
 frees : ∀ y ∈ scope.names, y.2 = .free → (X.env.kindOf y.1 = some .cell ∨ X.env.kindOf y.1 = some .free)
 look : ∀ x k, (relabel scope X.env).names.lookup x = some k → (k = .cell ∨ k = .free) → (x, NameKind.free) ∈ scope.names ∨ (x, NameKind.cell) ∈ scope.names
 lenI : ix.length = N'.length
 at_ : ∀ (i j : Nat) (x : Str), ix[i]? = some (some j) → N'[i]? = some x → X.N[j]? = some x ∧ (x, NameKind.free) ∈ scope.names ∧ ownB scope.names x = false ∧ (relabel scope X.env).names.lookup x = X.env.kindOf x
variable {X : Cx} {pins : List (Addr × Obj)} {σ : St} {H : Hp} {s : Shared} {N' : List Str} {ix : List (Option Nat)} {scope : Scope}
noncomputable def pick (ix : List (Option Nat)) (σ : St) : St := ix.map fun o => match o with | some j => (σ[j]?).join | none => none
theorem a9x {i : Nat} {v : V} (e : (pick ix σ)[i]? = some (some v)) : ∃ j, ix[i]? = some (some j) ∧ σ[j]? = some (some v) := by
 unfold pick at e
 rw [List.getElem?_map] at e
 cases h : ix[i]? with
 | none => rw [h] at e; cases e
 | some o =>
   rw [h] at e
   cases o with
   | none =>
     have e' : (none : Option V) = some v := Option.some.inj e
     cases e'
   | some j =>
     have e' : (σ[j]?).join = some v := Option.some.inj e
     refine ⟨j, rfl, ?_⟩
     cases hj : σ[j]? with
     | none => rw [hj] at e'; cases e'
     | some u => rw [hj] at e'; exact congrArg some e'
theorem a1F (I : Inv X pins σ H s) (S : BlkScope X N' ix scope) (C : Addr) {x : Str} {c : Addr} (e : (cellsFrom (C + 1) scope.names [] ++ a3T X.env scope.names []).lookup x = some c) :
  (C < c ∧ (cellsFrom (C + 1) scope.names []).lookup x = some c) ∨ (ownB scope.names x = false ∧ X.env.cells.lookup x = some c) := by
 rw [List.lookup_append] at e
 cases h : (cellsFrom (C + 1) scope.names []).lookup x with
 | some c' =>
   rw [h] at e
   cases e
   exact .inl ⟨(a1E _ _ (mem_of_lookup h)).1, rfl⟩
 | none =>
   rw [h] at e
   refine .inr ⟨Bool.eq_false_iff.mpr fun z => ?_, ?_⟩
   ·have := a1T scope.names (C + 1) (a9B.mp z)
    rw [h] at this; cases this
   ·have e' : (a3T X.env scope.names []).lookup x = some c := e
    rcases a3h X.env scope.names [] x c e' with q | ⟨q, rfl⟩
    ·cases q
    ·obtain ⟨c, hc⟩ := I.ok.has x (S.frees _ q rfl)
     rw [hc] <;> rfl
theorem b8U {fp : List Addr} {C : Addr} (I : Inv X pins σ H s) (hf : ∀ b ∈ fp, FpOk X pins H b) (S : BlkScope X N' ix scope) (hC : s.heap.objs.size ≤ C) (hfo : ∀ b ∈ fp, ∃ o, s.heap.get? b = some o) :
  (blk X N' scope C s H fp pins).Ok := by
 have lt : ∀ x c, X.env.cells.lookup x = some c → c < C := fun x c e => by
  obtain ⟨v, z⟩ := I.cell x c e
  exact Nat.lt_of_lt_of_le z.lt hC
 refine ⟨I.ok.mod, ?_, I.ok.glob, I.ok.blt, hC, fun x y c h1 h2 => ?_, fun x hx => ?_, fun x c hf' e => ?_, I.ok.hd, I.ok.frames, .inl rfl, fun b hb => ?_, I.bs, Nat.le_trans I.ok.bsz I.sz, fun b o e hb => ?_, fun b hb hs => ?_, I.stack, I.stkFree⟩
 ·exact S.kind
 ·rcases a1F I S C h1 with ⟨a1, a2⟩ | ⟨a1, a2⟩ <;> rcases a1F I S C h2 with ⟨b1, b2⟩ | ⟨b1, b2⟩
  ·exact name_of_addr (a2e _ _) (mem_of_lookup a2) (mem_of_lookup b2)
  ·exact absurd (Nat.lt_trans (lt _ _ b2) a1) (Nat.lt_irrefl _)
  ·exact absurd (Nat.lt_trans (lt _ _ a2) b1) (Nat.lt_irrefl _)
  ·exact I.ok.inj x y c a2 b2
 ·have hx' : (relabel scope X.env).names.lookup x = some .cell ∨ (relabel scope X.env).names.lookup x = some .free := hx
  have key : (x, NameKind.free) ∈ scope.names ∨ (x, NameKind.cell) ∈ scope.names := by
   rcases hx' with hx' | hx'
   ·exact S.look x _ hx' (.inl rfl)
   ·exact S.look x _ hx' (.inr rfl)
  show ∃ c, (cellsFrom (C + 1) scope.names [] ++ a3T X.env scope.names []).lookup x = some c
  rw [List.lookup_append]
  cases h : (cellsFrom (C + 1) scope.names []).lookup x with
  | some c => exact ⟨c, rfl⟩
  | none =>
    rcases key with k | k
    ·obtain ⟨c, hc⟩ := a5E X.env scope.names [] x k
     exact ⟨c, by rw [hc]; rfl⟩
    ·have := a1T scope.names (C + 1) k
     rw [h] at this; cases this
 ·rcases a1F I S C e with ⟨a1, a2⟩ | ⟨a1, a2⟩
  ·exact Nat.le_of_lt (Nat.lt_of_le_of_lt hC a1)
  ·have hf2 : ownB scope.names x = true := hf'
   rw [a1] at hf2; cases hf2
 ·obtain ⟨f0, f1, f2, f3, f4, f5⟩ := hf b hb
  obtain ⟨o, ho⟩ := hfo b hb
  refine ⟨Nat.ne_of_lt (Nat.lt_of_lt_of_le (Heap.lt_size ho) hC), fun x c e => ?_⟩
  rcases a1F I S C e with ⟨a1, a2⟩ | ⟨a1, a2⟩
  ·exact Nat.ne_of_gt (Nat.lt_trans (Nat.lt_of_lt_of_le (Heap.lt_size ho) hC) a1)
  ·exact f4 x c a2
 ·obtain ⟨f0, f1, f2, f3, f4, f5⟩ := hf b hb
  have := (I.ok.bs b o e).1
  rcases f3 with z | z
  ·exact I.ok.noex b o e z
  ·exact absurd (Nat.lt_of_lt_of_le (Heap.lt_size this) z) (Nat.lt_irrefl _)
 ·obtain ⟨f0, f1, f2, f3, f4, f5⟩ := hf b hb
  rcases List.mem_cons.mp (I.stkSub b hs) with e | e
  ·exact f1 e
  ·exact f2 e
theorem b3d {fp : List Addr} {C : Addr} {h₁ : Heap} {tk : Nat} (I : Inv X pins σ H s) (hf : ∀ b ∈ fp, FpOk X pins H b) (S : BlkScope X N' ix scope) (hC : s.heap.objs.size ≤ C) (hfo : ∀ b ∈ fp, ∃ o, s.heap.get? b = some o)
  (hns : h₁.Ns C (fun _ => none)) (hk : ∀ b o, s.heap.get? b = some o → h₁.get? b = some o) (hown : ∀ x c, (x, c) ∈ cellsFrom (C + 1) scope.names [] → h₁.IsCell c none) :
  Inv (blk X N' scope C s H fp pins) [] (pick ix σ) H { s with heap := h₁, toks := tk } := by
 have nC : ∀ b o, s.heap.get? b = some o → b ≠ C := fun b o e => Nat.ne_of_lt (Nat.lt_of_lt_of_le (Heap.lt_size e) hC)
 refine ⟨b8U I hf S hC hfo, rfl, I.bare, Un.kept hk, ⟨_, hns, fun i x v h1 h2 h3 => ?_⟩, fun x c e => ?_, I.hok.fresh hC, fun x c e => ?_, fun p hp => ?_, I.hok.kept hk, ?_⟩
 ·obtain ⟨j, e1, e2⟩ := a9x h2
  obtain ⟨a1, a2, a4, a3⟩ := S.at_ i j x e1 h1
  have kd := S.frees _ a2 rfl
  have vis : Vis X.env.scope x := by
   rcases kd with k | k
   ·exact .inr (.inl k)
   ·exact .inr (.inr k)
  obtain ⟨m, hn, hl⟩ := I.loc
  obtain ⟨u, r, l⟩ := hl j x v a1 e2 vis
  refine ⟨u, r, .inr ?_⟩
  have kd' : X.env.kindOf x = some .cell ∨ X.env.kindOf x = some .free := kd
  rcases l with ⟨k, _⟩ | ⟨k, c, ec, z⟩
  ·rcases kd' with q | q <;> (rw [q] at k; cases k)
  ·refine ⟨?_, c, ?_, z.keeps hk⟩
   ·show (relabel scope X.env).names.lookup x = some .cell ∨ (relabel scope X.env).names.lookup x = some .free
    rw [a3]; exact kd'
   ·obtain ⟨c', hc'⟩ := a5E X.env scope.names [] x a2
    show (cellsFrom (C + 1) scope.names [] ++ a3T X.env scope.names []).lookup x = some c
    have hn : (cellsFrom (C + 1) scope.names []).lookup x = none := by
     cases h : (cellsFrom (C + 1) scope.names []).lookup x with
     | none => rfl
     | some c2 =>
       have := a9B.mpr (a1E _ _ (mem_of_lookup h)).2
       rw [a4] at this; cases this
    rw [List.lookup_append, hn]
    show (a3T X.env scope.names []).lookup x = some c
    rcases a3h X.env scope.names [] x c' hc' with q | ⟨q, q2⟩
    ·cases q
    ·rw [hc', q2, ec]; rfl
 ·rcases a1F I S C e with ⟨a1, a2⟩ | ⟨a1, a2⟩
  ·exact ⟨none, hown x c (mem_of_lookup a2)⟩
  ·obtain ⟨v, z⟩ := I.cell x c a2
   exact ⟨v, z.keeps hk⟩
 ·rcases a1F I S C e with ⟨a1, a2⟩ | ⟨a1, a2⟩
  ·exact I.hok.fresh (Nat.le_of_lt (Nat.lt_of_le_of_lt hC a1))
  ·exact I.freeC x c a2
 ·have hp' : p ∈ X.pn ++ pins := by
   have : p ∈ (X.pn ++ pins) ++ [] := hp
   simpa using this
  obtain ⟨e, n, ne, nf, d⟩ := I.pin p hp'
  refine ⟨hk _ _ e, n, nC _ _ e, fun hb => ?_, d⟩
  rcases List.mem_cons.mp (I.stkSub _ hb) with z | z
  ·exact ne z
  ·exact nf z
 ·show (pick ix σ).length = N'.length
  unfold pick
  rw [List.length_map, S.lenI]
theorem b6O {fp : List Addr} {C D : Addr} {h' : Heap} {H' : Hp} {σ' : St} {s' : Shared} {ys : List V} {its : List Value} {cap : Nat} (I : Inv X pins σ H s) (hf : ∀ b ∈ fp, FpOk X pins H b) (hC : s.heap.objs.size ≤ C) (hD : s.heap.objs.size ≤ D) (hDC : D ≠ C)
  (J : Inv (blk X N' scope C s H fp pins) [] σ' H' s') (hDn : H' D = none) (ho : s'.heap.get? D = some { cls := .type "list", data := .seq its.toArray cap }) (r : Vals ys its) (hz : ys.length ≤ sizeLine) (sb : Heap.SameBut C s'.heap h') :
  Inv X pins σ (upd H' D (.lst ys)) { s' with heap := h' } := by
 have sb' : ∀ b o, b ≠ C → s'.heap.get? b = some o → h'.get? b = some o := sb.extBut
 have nC : ∀ b o, s.heap.get? b = some o → b ≠ C := fun b o e => Nat.ne_of_lt (Nat.lt_of_lt_of_le (Heap.lt_size e) hC)
 have nD : ∀ b o, s.heap.get? b = some o → b ≠ D := fun b o e => Nat.ne_of_lt (Nat.lt_of_lt_of_le (Heap.lt_size e) hD)
 have hCn : H' C = none := J.free
 have u := J.base
 refine I.call' (ch := fp) (s' := { s' with heap := h' }) J.os ⟨fun b o e n hb hx => ?_, fun b o e n hb hx => ?_, fun b o e n hx => ?_, fun b o e hx => ?_, fun b xs e => ?_, fun b o v e => ?_, fun b ps e => ?_⟩ (fun b o e => ?_) J.bare (fun b hb => ?_)
 ·exact sb' _ _ (nC b o e) (u.keep b o e n hb hx)
 ·obtain ⟨sl, q⟩ := u.slot b o e n hb hx
  exact ⟨sl, sb' _ _ (nC b o e) q⟩
 ·rw [a0l (nD b o e)]; exact u.free b o e n hx
 ·obtain ⟨o', q⟩ := u.there b o e hx
  exact ⟨o', sb' _ _ (nC b o e) q⟩
 ·have q := u.tups b xs e
  rw [a0l (a0k q hDn)]; exact q
 ·have q := u.frzs b o v e
  rw [a0l (a0k q hDn)]; exact q
 ·obtain ⟨m, q⟩ := u.tbls b ps e
  exact ⟨m, by rw [a0l (a0k q hDn)]; exact q⟩
 ·by_cases hb : b = D
  ·subst hb
   rw [a0s] at e; cases e
   exact ⟨hz, its, cap, r, sb' _ _ hDC ho⟩
  ·rw [a0l hb] at e
   refine (J.hok b o e).stay (fun c v hc q => sb' c v ?_ q) (fun c q => by rw [a0l (a0k q hDn)]; exact q) fun c xs q => by rw [a0l (a0k q hDn)]; exact q
   rcases hc with rfl | hc
   ·exact a0k e hCn
   ·exact a0k hc hCn
 ·obtain ⟨f0, f1, f2, f3, f4, f5⟩ := hf b hb
  exact ⟨f3, f1, f4, f5⟩
noncomputable def b5q (wi : TI) (ix : List (Option Nat)) (g : TG) (tt : TT) (te : TE) : TE := fun σ H Q => wi σ H fun J H1 => ∃ W : Nat → Nat → List V → Hp → Prop, (∃ m, W 0 m [] H1) ∧ ∀ i m ys H, W i m ys H →
 (J.stop i H ∧ ys.length ≤ sizeLine ∧ ∀ p, H p = none → Q (.ref p) (upd H p (.lst ys))) ∨
 (J.go i H ∧ ys.length < sizeLine ∧ ∀ x H', J.yld i H x H' → g x (pick ix σ) H' fun σ2 H2 => tt σ2 H2 fun ok H3 =>
  if ok = true then te σ2 H3 fun y H4 => ∃ m', m' < m ∧ W (i + 1) m' (ys ++ [y]) H4 else ∃ m', m' < m ∧ W (i + 1) m' ys H3)
noncomputable def PTs (X : Cx) (ifs : List Expr) (t : TT) : Prop :=
 ∀ (pins : List (Addr × Obj)) (s : Shared) (σ : St) (H : Hp) (Q : Bool → Hp → Prop), Inv X pins σ H s → t σ H Q →
   wpAny (model X.prog X.w) X.A (forIn ifs true fun c r => if r = true then do let ok ← isTrue c X.env (eval c X.env); pure (ForInStep.yield ok) else pure (ForInStep.yield r)) (TP X pins σ Q) X.xe s
noncomputable def tYes : TT := fun _ H Q => Q true H
theorem b5R : PTs X [] tYes := fun _ _ _ H _ I h => wpAny_tests_nil ⟨H, I, h⟩
theorem b5Q {c : Expr} {t : TT} (h : PT X c t) : PTs X [c] t := fun pins s σ H Q I hw => wpAny_tests_one (h pins s σ H Q I hw)
noncomputable def Agr (ix : List (Option Nat)) (σ σ2 : St) : Prop := σ2.length = σ.length ∧ ∀ (k j : Nat), ix[k]? = some (some j) → σ2[k]? = σ[k]?
noncomputable def Own (ix : List (Option Nat)) (g : TG) : Prop := ∀ (x : V) (σ0 σ : St) (H : Hp) (Q : St → Hp → Prop), Agr ix σ0 σ → g x σ H Q → g x σ H fun σ2 H2 => Q σ2 H2 ∧ Agr ix σ0 σ2
noncomputable def Owns (ix : List (Option Nat)) (g : TGs) : Prop := ∀ (x : List V) (σ0 σ : St) (H : Hp) (Q : St → Hp → Prop), Agr ix σ0 σ → g x σ H Q → g x σ H fun σ2 H2 => Q σ2 H2 ∧ Agr ix σ0 σ2
noncomputable def b9b (g : TG) : Prop := ∀ (x : V) (σ : St) (H : Hp) (Q Q' : St → Hp → Prop), (∀ σ H, Q σ H → Q' σ H) → g x σ H Q → g x σ H Q'
theorem a6K {ix : List (Option Nat)} {i : Nat} (h : ix[i]? = some none) : Own ix (a8Z i) := by
 intro x σ0 σ H Q a q
 refine ⟨q, by rw [List.length_set]; exact a.1, fun k j hk => ?_⟩
 rw [List.getElem?_set_ne]
 ·exact a.2 k j hk
 ·rintro rfl
  rw [h] at hk; cases hk
theorem a6h {i : Nat} : b9b (a8Z i) := fun x σ H Q Q' h q => h _ _ q
theorem b3R {ix : List (Option Nat)} : Owns ix gNil := by
 intro x σ0 σ H Q a q
 exact ⟨q.1, q.2, a⟩
theorem a7A {ix : List (Option Nat)} {t : TG} {u : TGs} (m : b9b t) (h1 : Own ix t) (h2 : Owns ix u) : Owns ix (b4l t u) := by
 intro x σ0 σ H Q a q
 obtain ⟨v, r, e, q⟩ := q
 exact ⟨v, r, e, m _ _ _ _ _ (fun σ1 H1 q1 => h2 _ σ0 _ _ _ q1.2 q1.1) (h1 _ σ0 _ _ _ a q)⟩
theorem b6f {ix : List (Option Nat)} {K : PySem.W.Frag} {n : Nat} {t : TGs} (h : Owns ix t) : Own ix (gTup K n t) := by
 intro x σ0 σ H Q a q
 obtain ⟨p, xs, e1, e2, e3, q⟩ := q
 exact ⟨p, xs, e1, e2, e3, h _ σ0 _ _ _ a q⟩
theorem b2V {elt iter tg : Expr} {ifs : List Expr} {pos posc : Pos} {wi : TI} {g : TG} {tt : TT} {te : TE} (use : Option (Value → Sem Unit)) (QQ : Value → Shared → Prop) (hc : X.calm = true) (hi : PI X tg iter wi) (S : BlkScope X N' ix scope) (ow : Own ix g)
  (hg : ∀ C s H fp pins, PG (blk X N' scope C s H fp pins) tg g) (ht : ∀ C s H fp pins, PTs (blk X N' scope C s H fp pins) ifs tt) (he : ∀ C s H fp pins, PE (blk X N' scope C s H fp pins) elt te)
  (hs : ∀ x, foldedSetIterable iter X.env x = pure x) (pins : List (Addr × Obj)) (s : Shared) (σ : St) (H : Hp) (Q : VK) (I : Inv X pins σ H s) (h : b5q wi ix g tt te σ H Q)
  (hpost : ∀ (C D : Addr) (H5 : Hp) (s4 : Shared) (m : Str → Option Value), s4.heap.Ns C m → FpOk X pins H5 C → (∀ h', Heap.SameBut C s4.heap h' → Inv X pins σ H5 { s4 with heap := h' }) → Q (.ref D) H5 →
   compPost (model X.prog X.w) X.A X.xe use QQ (.ref D) C (.ok .next) s4) :
  wpAny (model X.prog X.w) X.A (comprehension (.ListComp elt [⟨tg, iter, ifs, 0⟩] scope pos) scope X.env posc (newList []) false (eval iter X.env) use) QQ X.xe s := by
 refine wpAny_comprehension_free (use := use) rfl hs (a7f scope X.env fun y hy hk => I.ok.has y.1 (S.frees y hy hk)) S.kind S.locs (thn (hi pins s σ H _ I h) fun v s1 h1 => thn h1 fun itv s2 h2 => ?_)
 obtain ⟨it, fp, tn, J, H2, e, I2, T, st2, f2, W, ⟨m0, w0⟩, turn⟩ := h2
 subst e
 have hfo : ∀ b ∈ fp, ∃ o, s2.heap.get? b = some o := fun b hb => let ⟨o, e, _⟩ := T.obj _ _ st2 b hb; ⟨o, e⟩
 refine wpAny_newObj_type (a4s (fun h₁ eh₁ => ?_))
 dsimp only at eh₁ ⊢
 generalize hH2 : s2.heap.push { cls := .type "list", dict := none, data := .seq ([] : List Value).toArray } = Hp2 at eh₁ ⊢
 have hC : Hp2.objs.size = s2.heap.objs.size + 1 := by rw [← hH2, Heap.size_push]
 have old1 : ∀ b o, Hp2.get? b = some o → h₁.get? b = some o := fun b o e => by rw [eh₁]; exact pushCells_keeps _ _ _ _ (Heap.get?_push_of_some _ e)
 have hns : h₁.Ns Hp2.objs.size (fun _ => none) := by rw [eh₁]; exact (Heap.Ns.new Hp2 (.type "dict")).keeps (pushCells_keeps _ _)
 have hown : ∀ x c, (x, c) ∈ cellsFrom (Hp2.objs.size + 1) scope.names [] → h₁.IsCell c none := fun x c hm => by
  have ok := cellsFrom_ok scope.names (Hp2.push { cls := .type "dict", data := .dict #[] }) (Hp2.objs.size + 1) [] ⟨fun _ _ hm => (nomatch hm), List.Pairwise.nil⟩ (by rw [Heap.size_push]; exact Nat.le_refl _)
  rw [Heap.size_push] at ok
  rw [eh₁]
  exact (ok.empty x c hm).1
 generalize hCC : Hp2.objs.size = C at hns hown hC ⊢
 generalize hDD : s2.heap.objs.size = D at hC
 have hCge : s2.heap.objs.size ≤ C := by rw [hDD, hC]; exact Nat.le_succ _
 have hDge : s2.heap.objs.size ≤ D := Nat.le_of_eq hDD
 have hDC : D ≠ C := by rw [hC]; exact Nat.ne_of_lt (Nat.lt_succ_self _)
 have hDlt : D < C := by rw [hC]; exact Nat.lt_succ_self _
 have old : ∀ b o, s2.heap.get? b = some o → h₁.get? b = some o := fun b o e => old1 b o (hH2 ▸ Heap.get?_push_of_some _ e)
 have hacc : h₁.get? D = some { cls := .type "list", data := .seq ([] : List Value).toArray 0 } := old1 _ _ (hH2 ▸ hDD ▸ Heap.get?_push_size _ rfl)
 have stat : ∀ {H' : Hp}, (∀ b ∈ fp, H' b = none) → ∀ b ∈ fp, FpOk (blk X N' scope C s2 H2 fp pins) [] H' b := fun hn b hb => by
  obtain ⟨f0, f1, f2, f3, f4, f5⟩ := f2 b hb
  obtain ⟨o, ho⟩ := hfo b hb
  refine ⟨hn b hb, Nat.ne_of_lt (Nat.lt_of_lt_of_le (Heap.lt_size ho) hCge), fun z => ?_, .inl hb, fun x c e => ?_, fun p hp => ?_⟩
  ·rcases List.mem_cons.mp (I2.stkSub _ z) with e | e
   ·exact f1 e
   ·exact f2 e
  ·rcases a1F I2 S C e with ⟨a1, a2⟩ | ⟨a1, a2⟩
   ·exact Nat.ne_of_gt (Nat.lt_trans (Nat.lt_of_lt_of_le (Heap.lt_size ho) hCge) a1)
   ·exact f4 x c a2
  ·have : p ∈ (X.pn ++ pins) ++ [] := hp
   exact f5 p (by simpa using this)
 have hDs : D ∉ (blk X N' scope C s2 H2 fp pins).fs := fun hb => by
  rcases List.mem_cons.mp (I2.stkSub _ hb) with e | e
  ·rw [e] at hDge
   exact absurd (Nat.lt_of_lt_of_le I2.lt hDge) (Nat.lt_irrefl _)
  ·exact I2.nofs hDge e
 have loop : ∀ s₃ : Shared, s₃ = { s2 with heap := h₁ } →
   codeAny (model X.prog X.w) X.A (.compLoop (.ListComp elt [⟨tg, iter, ifs, 0⟩] scope pos) 0 (.ref it) (.ref D) (compEnvC scope (cellsFrom (C + 1) scope.names [] ++ a3T X.env scope.names []) C X.env))
    (compPost (model X.prog X.w) X.A X.xe use QQ (.ref D) C) s₃ := by
  rintro s₃ rfl
  refine a3B (fun n s' => ∃ i ys its cap H', Inv (blk X N' scope C s2 H2 fp pins) [] (pick ix σ) H' s' ∧ tn i s'.heap ∧ (∀ b ∈ fp, H' b = none) ∧ H' D = none ∧
    s'.heap.get? D = some { cls := .type "list", data := .seq (its : List Value).toArray cap } ∧ Vals ys its ∧ W i n ys H') ?_ m0
   ⟨0, [], [], 0, H2, b3d I2 f2 S hCge hfo hns old hown, T.keep _ _ _ st2 fun b _ o e => old b o e, fun b hb => (f2 b hb).1, I2.hok.fresh hDge, hacc, .nil, w0⟩
  rintro n s3 ⟨i, ys, its, cap, H3, I3, st3, fr3, hD3, ho3, r3, w3⟩
  have I3d : Inv (blk X N' scope C s2 H2 fp pins) [(D, { cls := .type "list", data := .seq its.toArray cap })] (pick ix σ) H3 s3 := I3.pins_of fun p hp => by
   have e : p = (D, { cls := .type "list", data := .seq its.toArray cap }) := by simpa using hp
   subst e
   exact ⟨ho3, hD3, hDC, hDs, fun v z => nomatch z⟩
  have statD : ∀ {H' : Hp}, (∀ b ∈ fp, H' b = none) → ∀ b ∈ fp, FpOk (blk X N' scope C s2 H2 fp pins) [(D, ({ cls := .type "list", data := .seq its.toArray cap } : Obj))] H' b := fun hn b hb => by
   obtain ⟨f0, f1, f2, f3, f4, f5⟩ := stat hn b hb
   obtain ⟨o, ho⟩ := hfo b hb
   refine ⟨f0, f1, f2, f3, f4, fun p hp => ?_⟩
   rcases List.mem_append.mp hp with z | z
   ·exact f5 p (List.mem_append_left _ z)
   ·have e : p = (D, ({ cls := .type "list", data := .seq its.toArray cap } : Obj)) := by simpa using z
    subst e
    exact Nat.ne_of_gt (Nat.lt_of_lt_of_le (Heap.lt_size ho) hDge)
  rcases turn i n ys H3 w3 with ⟨stop, hz, qn⟩ | ⟨go, hz, step⟩
  ·refine wpAny_noRaise (thn (T.done (blk X N' scope C s2 H2 fp pins) rfl rfl rfl hc i _ s3 (pick ix σ) H3 (fun _ _ => False) I3d (statD fr3) st3 stop) fun r s4 ⟨hr, I4⟩ => ?_)
   subst hr
   obtain ⟨e4, n4, _⟩ := I4.pin (D, _) (List.mem_append_right _ (List.mem_singleton.mpr rfl))
   obtain ⟨m, hn, _⟩ := id I4.loc
   have hC4 : H3 C = none := I4.free
   exact hpost C D _ _ m hn (I2.fpOk hCge (by rw [a0l (Ne.symm hDC)]; exact hC4)) (fun h' sb => b6O I2 f2 hCge hDge hDC (Inv.unpinned (pl := [(D, _)]) (pins := []) I4) n4 e4 r3 hz sb) (qn D n4)
  ·refine wpAny_noRaise (thn (T.item (blk X N' scope C s2 H2 fp pins) rfl rfl rfl hc i _ s3 (pick ix σ) H3 (fun _ _ => False) I3d (statD fr3) st3 go) fun r s4 ⟨u, hr, h4⟩ => ?_)
   subst hr
   refine wpAny_noRaise (thn h4 fun _ s5 ⟨x, H5, I5, r5, y5, st5, fr5⟩ => ?_)
   have I5' := I5.pinned (statD fr5) (T.obj _ _ st5)
   have again : ∀ {σ7 : St} {H7 : Hp} {s7 : Shared}, Inv (blk X N' scope C s2 H2 fp pins) ([(D, ({ cls := .type "list", data := .seq its.toArray cap } : Obj))] ++ a5X fp s5.heap) σ7 H7 s7 →
     H7 D = none ∧ s7.heap.get? D = some { cls := .type "list", data := .seq its.toArray cap } ∧ tn (i + 1) s7.heap ∧ ∀ b ∈ fp, H7 b = none := fun {σ7 H7 s7} I7 => by
    obtain ⟨e7, n7, _⟩ := I7.pin (D, _) (List.mem_append_right _ (List.mem_append_left _ (List.mem_singleton.mpr rfl)))
    refine ⟨n7, e7, T.keep _ _ _ st5 fun b hb o e => (I7.pin (b, o) (List.mem_append_right _ (List.mem_append_right _ (a3s hb e)))).1, fun b hb => ?_⟩
    obtain ⟨o, e, d⟩ := T.obj _ _ st5 b hb
    exact (I7.pin (b, o) (List.mem_append_right _ (List.mem_append_right _ (a3s hb e)))).2.1
   have forget : ∀ {σ7 : St} {H7 : Hp} {s7 : Shared}, Inv (blk X N' scope C s2 H2 fp pins) ([(D, ({ cls := .type "list", data := .seq its.toArray cap } : Obj))] ++ a5X fp s5.heap) σ7 H7 s7 →
     (∀ (k : Nat) v, (pick ix σ)[k]? = some (some v) → σ7[k]? = some (some v)) → σ7.length = (pick ix σ).length → Inv (blk X N' scope C s2 H2 fp pins) [] (pick ix σ) H7 s7 := fun {σ7 H7 s7} I7 hk hl =>
    (I7.pins_of (pins' := []) fun _ z => nomatch z).weak hl.symm hk
   refine wpAny_noRaise (thn (hg C s2 H2 fp pins _ s5 (pick ix σ) H5 x u _ I5' r5 (ow _ _ _ _ _ ⟨rfl, fun _ _ _ => rfl⟩ (step x H5 y5))) fun _ s6 ⟨σ6, H6, I6, q6, l6, k6⟩ => ?_)
   have back : ∀ (k : Nat) v, (pick ix σ)[k]? = some (some v) → σ6[k]? = some (some v) := fun k v e => by
    obtain ⟨j, e1, _⟩ := a9x e
    rw [k6 k j e1]; exact e
   refine wpAny_noRaise (thn (ht C s2 H2 fp pins _ s6 σ6 H6 _ I6 q6) fun ok s7 ⟨H7, I7, q7⟩ => ?_)
   cases ok with
   | false =>
     rw [if_neg Bool.false_ne_true]
     rw [if_neg Bool.false_ne_true] at q7
     obtain ⟨m', hm, w7⟩ := q7
     obtain ⟨a1, a2, a3, a4⟩ := again I7
     exact ⟨m', hm, i + 1, ys, its, cap, H7, forget I7 back l6, a3, a4, a1, a2, r3, w7⟩
   | true =>
     rw [if_pos rfl]
     rw [if_pos rfl] at q7
     refine wpAny_noRaise (thn (he C s2 H2 fp pins _ s7 σ6 H7 _ I7 q7) fun z s8 ⟨y, H8, I8, r8, m', hm, w8⟩ => ?_)
     obtain ⟨a1, a2, a3, a4⟩ := again I8
     have hl := r3.length
     refine wpAny_noRaise (wpAny_list_append_plain ⟨_, a2⟩ (fun h9 ⟨cap9, p9⟩ sb9 => ?_) (by rw [List.size_toArray, ← hl]; exact Nat.le_of_lt hz))
     have I9 : Inv (blk X N' scope C s2 H2 fp pins) [] (pick ix σ) H8 { s8 with heap := h9 } :=
      (forget I8 back l6).turned (t' := s8.toks) (it := D) (fun b o hb e => sb9.extBut b o hb e) a1 hDC (.inr hDge) (fun x c e => by
       rcases a1F I2 S C e with ⟨a1, a2⟩ | ⟨a1, a2⟩
       ·exact Nat.ne_of_gt (Nat.lt_trans hDlt a1)
       ·obtain ⟨v, z⟩ := I2.cell x c a2
        exact Nat.ne_of_lt (Nat.lt_of_lt_of_le z.lt hDge)) (fun p hp => by
       have hp' : p ∈ (X.pn ++ pins) ++ [] := hp
       exact Nat.ne_of_lt (Nat.lt_of_lt_of_le (Heap.lt_size (I2.pin p (by simpa using hp')).1) hDge))
     refine ⟨m', hm, i + 1, ys ++ [y], its ++ [z], cap9, H8, I9, ?_, a4, a1, ?_, r3.append (.cons r8 .nil), w8⟩
     ·refine T.keep _ _ _ a3 fun b hb o e => sb9.extBut b o ?_ e
      obtain ⟨o', ho'⟩ := hfo b hb
      exact Nat.ne_of_lt (Nat.lt_of_lt_of_le (Heap.lt_size ho') hDge)
     ·rw [p9]; simp
 exact codeAny_compStart_list (loop _ rfl) (T.self _ _ _ _ _ (T.keep _ _ _ st2 fun b _ o e => old b o e) (loop _ rfl))
theorem b6a {elt iter tg : Expr} {ifs : List Expr} {pos : Pos} {wi : TI} {g : TG} {tt : TT} {te : TE} (hc : X.calm = true) (hi : PI X tg iter wi) (S : BlkScope X N' ix scope) (ow : Own ix g)
  (hg : ∀ C s H fp pins, PG (blk X N' scope C s H fp pins) tg g) (ht : ∀ C s H fp pins, PTs (blk X N' scope C s H fp pins) ifs tt) (he : ∀ C s H fp pins, PE (blk X N' scope C s H fp pins) elt te)
  (hs : ∀ x, foldedSetIterable iter X.env x = pure x := by intro _; rfl) :
  PE X (.ListComp elt [⟨tg, iter, ifs, 0⟩] scope pos) (b5q wi ix g tt te) := by
 intro pins s σ H Q I h
 rw [eval_ListComp]
 exact b2V none (EP X pins σ Q) hc hi S ow hg ht he hs pins s σ H Q I h fun C D H5 s4 m hn _ inv q => ⟨m, hn, fun h' sb => ⟨.ref D, H5, inv h' sb, rfl, q⟩⟩
noncomputable def b3B (scope outer : Scope) : Scope :=
 { scope with names := scope.names.map fun (n, k) => if (k == .free && outer.kind == .function && outer.names.lookup n == some .cell) then (n, .cell) else (n, k) }
theorem a7y {scope : Scope} {env : Env} {x : Str} {k : NameKind} (h : (relabel scope env).names.lookup x = some k) (hk : k = .cell ∨ k = .free) : (x, NameKind.free) ∈ scope.names ∨ (x, NameKind.cell) ∈ scope.names := by
 have hm : (x, k) ∈ (relabel scope env).names := PySem.mem_of_lookup h
 unfold relabel at hm
 obtain ⟨⟨n, k0⟩, h1, h2⟩ := List.mem_map.mp hm
 dsimp only at h2
 split at h2
 ·rename_i hc
  have e1 : n = x := (Prod.mk.inj h2).1
  subst e1
  have : k0 = NameKind.free := by
   simp only [Bool.and_eq_true, beq_iff_eq] at hc
   exact hc.1.1
  rw [this] at h1; exact .inl h1
 ·have e1 := Prod.mk.inj h2
  obtain ⟨rfl, rfl⟩ := e1
  rcases hk with rfl | rfl
  ·exact .inr h1
  ·exact .inl h1
noncomputable def blkB (outer : Scope) (N N' : List Str) (ix : List (Option Nat)) (scope : Scope) : Bool :=
 decide (scope.kind = .function) && decide (outer.kind = .function) && scope.names.all (fun y => decide (y.2 = .local → scope.names.lookup y.1 = some .local)) &&
 scope.names.all (fun y => decide (y.2 = .free → (outer.names.lookup y.1 = some .cell ∨ outer.names.lookup y.1 = some .free))) && decide (ix.length = N'.length) &&
 (List.range ix.length).all fun i => match ix[i]?, N'[i]? with
  | some (some j), some x => decide (N[j]? = some x) && decide ((x, NameKind.free) ∈ scope.names) && !ownB scope.names x &&
    decide ((b3B scope outer).names.lookup x = outer.names.lookup x)
  | _, _ => true
theorem a1d {X : Cx} {outer scope : Scope} {N N' : List Str} {ix : List (Option Nat)} (h : blkB outer N N' ix scope = true) (ho : X.env.scope = outer) (hN : X.N = N) : BlkScope X N' ix scope := by
 unfold blkB at h
 simp only [Bool.and_eq_true, decide_eq_true_eq, List.all_eq_true] at h
 obtain ⟨⟨⟨⟨⟨h1, h2⟩, h4⟩, h5⟩, h6⟩, h7⟩ := h
 subst ho hN
 refine ⟨h1, h4, h5, fun x k hl hk => a7y hl hk, h6, fun i j x e1 e2 => ?_⟩
 have hi : i < ix.length := (List.getElem?_eq_some_iff.mp e1).1
 have q := h7 i (List.mem_range.mpr hi)
 rw [e1, e2] at q
 simp only [Bool.and_eq_true, decide_eq_true_eq, Bool.not_eq_true'] at q
 exact ⟨q.1.1.1, q.1.1.2, q.1.2, q.2⟩
theorem PE.imp {X : Cx} {e : Expr} {t t' : TE} (h : PE X e t) (f : ∀ σ H Q, t' σ H Q → t σ H Q) : PE X e t' := fun pins s σ H Q I q => h pins s σ H Q I (f σ H Q q)
theorem PT.imp {X : Cx} {e : Expr} {t t' : TT} (h : PT X e t) (f : ∀ σ H Q, t' σ H Q → t σ H Q) : PT X e t' := fun pins s σ H Q I q => h pins s σ H Q I (f σ H Q q)
theorem PA.imp {X : Cx} {e : List Expr} {t t' : TA} (h : PA X e t) (f : ∀ σ H Q, t' σ H Q → t σ H Q) : PA X e t' := fun pos pins s σ H Q I q => h pos pins s σ H Q I (f σ H Q q)
theorem PS.imp {X : Cx} {e : Stmt} {t t' : TS} (h : PS X e t) (f : ∀ D σ H, t' D σ H → t D σ H) : PS X e t' := fun pins s σ H D I q => h pins s σ H D I (f D σ H q)
theorem PSs.imp {X : Cx} {e : List Stmt} {t t' : TS} (h : PSs X e t) (f : ∀ D σ H, t' D σ H → t D σ H) : PSs X e t' := fun pins s σ H D I q => h pins s σ H D I (f D σ H q)
inductive T where
 | non | bl (b : Bool) | int (i : Int) | str (x : Str) | tup (ts : List T) | adr (a : Addr)
 /-- a list that never changes (the script; a module's own) -/
 | rd (ts : List T)
 /-- a tuple of whole numbers that can be a dict's key -/
 | dic (ks : List Int) (ts : List T)
noncomputable def FzL (K : PySem.W.Frag) (H : Hp) (a : Addr) (xs : List V) : Prop :=
 (∃ o, H a = some (.frz o (.lst xs))) ∨
  ∃ (o : Obj) (its : Array Value) (n : Nat), K.lookup a = some o ∧ o.cls = .type "list" ∧ o.dict = none ∧ o.data = .seq its n ∧ its.size ≤ sizeLine ∧ Vals xs its.toList
theorem FzL.sq {K : PySem.W.Frag} {H : Hp} {a : Addr} {xs : List V} (h : FzL K H a xs) : SqL K H a xs := by
 rcases h with ⟨o, h⟩ | h
 ·exact .inl (.inr ⟨o, h⟩)
 ·exact .inr h
mutual
noncomputable def Rep (K : PySem.W.Frag) (H : Hp) : V → T → Prop
 | v, .non => v = .non
 | v, .bl b => v = .bl b
 | v, .int i => v = .int i
 | v, .str x => v = .str x
 | v, .adr a => v = .ref a
 | v, .tup ts => ∃ a xs, v = .ref a ∧ SqT K H a xs ∧ Reps K H xs ts
 | v, .rd ts => ∃ a xs, v = .ref a ∧ FzL K H a xs ∧ Reps K H xs ts
 | v, .dic ks _ => ∃ b, v = .ref b ∧ H b = some (.tup (ks.map V.int))
noncomputable def Reps (K : PySem.W.Frag) (H : Hp) : List V → List T → Prop
 | vs, [] => vs = []
 | vs, t :: ts => ∃ v r, vs = v :: r ∧ Rep K H v t ∧ Reps K H r ts
end
structure Kp (K : PySem.W.Frag) (H H' : Hp) : Prop where
 tup : ∀ a xs, SqT K H a xs → SqT K H' a xs
 frz : ∀ a o u, H a = some (.frz o u) → H' a = some (.frz o u)
 tr : ∀ a xs, H a = some (.tup xs) → H' a = some (.tup xs)
theorem Kp.refl {K : PySem.W.Frag} {H : Hp} : Kp K H H := ⟨fun _ _ h => h, fun _ _ _ h => h, fun _ _ h => h⟩
theorem Kp.trans {K : PySem.W.Frag} {H H1 H2 : Hp} (a : Kp K H H1) (b : Kp K H1 H2) : Kp K H H2 := ⟨fun _ _ h => b.tup _ _ (a.tup _ _ h), fun _ _ _ h => b.frz _ _ _ (a.frz _ _ _ h), fun _ _ h => b.tr _ _ (a.tr _ _ h)⟩
structure KpW (K : PySem.W.Frag) (H H' : Hp) : Prop where
 tup : ∀ a xs, SqT K H a xs → SqT K H' a xs
 frz : ∀ a o u, H a = some (.frz o u) → H' a = some (.frz o u)
 tr : ∀ a xs, H a = some (.tup xs) → H' a = some (.tup xs)
theorem Kp.w {K : PySem.W.Frag} {H H' : Hp} (k : Kp K H H') : KpW K H H' := ⟨k.tup, k.frz, k.tr⟩
theorem KpW.fz {K : PySem.W.Frag} {H H' : Hp} {a : Addr} {xs : List V} (k : KpW K H H') (h : FzL K H a xs) : FzL K H' a xs := by
 rcases h with ⟨o, h⟩ | h
 ·exact .inl ⟨o, k.frz _ _ _ h⟩
 ·exact .inr h
mutual
theorem Rep.kw {K : PySem.W.Frag} {H H' : Hp} (k : KpW K H H') : ∀ (v : V) (t : T), Rep K H v t → Rep K H' v t
 | v, .non, h => h
 | v, .bl b, h => h
 | v, .int i, h => h
 | v, .str x, h => h
 | v, .adr a, h => h
 | v, .tup ts, h => by
   unfold Rep at h ⊢
   obtain ⟨a, xs, e, h1, h2⟩ := h
   exact ⟨a, xs, e, k.tup _ _ h1, Reps.kw k xs ts h2⟩
 | v, .rd ts, h => by
   unfold Rep at h ⊢
   obtain ⟨a, xs, e, h1, h2⟩ := h
   exact ⟨a, xs, e, k.fz h1, Reps.kw k xs ts h2⟩
 | v, .dic ks ts, h => by
   unfold Rep at h ⊢
   obtain ⟨b, e, h1⟩ := h
   exact ⟨b, e, k.tr _ _ h1⟩
theorem Reps.kw {K : PySem.W.Frag} {H H' : Hp} (k : KpW K H H') : ∀ (vs : List V) (ts : List T), Reps K H vs ts → Reps K H' vs ts
 | vs, [], h => h
 | vs, t :: ts, h => by
   unfold Reps at h ⊢
   obtain ⟨v, r, e, h1, h2⟩ := h
   exact ⟨v, r, e, Rep.kw k v t h1, Reps.kw k r ts h2⟩
end
theorem Rep.kp {K : PySem.W.Frag} {H H' : Hp} (k : Kp K H H') (v : V) (t : T) (h : Rep K H v t) : Rep K H' v t := Rep.kw k.w v t h
theorem Reps.kp {K : PySem.W.Frag} {H H' : Hp} (k : Kp K H H') (vs : List V) (ts : List T) (h : Reps K H vs ts) : Reps K H' vs ts := Reps.kw k.w vs ts h
section
variable {K : PySem.W.Frag} {H : Hp}
theorem Reps.cons {v : V} {t : T} {vs : List V} {ts : List T} (h : Rep K H v t) (r : Reps K H vs ts) : Reps K H (v :: vs) (t :: ts) := by
 unfold Reps; exact ⟨v, vs, rfl, h, r⟩
theorem Reps.nil : Reps K H [] [] := by unfold Reps; rfl
theorem Reps.length : ∀ {vs : List V} {ts : List T}, Reps K H vs ts → vs.length = ts.length
 | vs, [], h => by unfold Reps at h; subst h; rfl
 | vs, t :: ts, h => by
   unfold Reps at h
   obtain ⟨v, r, rfl, _, h2⟩ := h
   rw [List.length_cons, List.length_cons, Reps.length h2]
theorem Reps.get : ∀ {vs : List V} {ts : List T} {i : Nat} {t : T}, Reps K H vs ts → ts[i]? = some t → ∃ v, vs[i]? = some v ∧ Rep K H v t
 | _, [], _, _, _, e => by simp at e
 | vs, t :: ts, 0, u, h, e => by
   unfold Reps at h
   obtain ⟨v, r, rfl, h1, _⟩ := h
   simp at e; subst e
   exact ⟨v, rfl, h1⟩
 | vs, t :: ts, i + 1, u, h, e => by
   unfold Reps at h
   obtain ⟨v, r, rfl, _, h2⟩ := h
   obtain ⟨w, q1, q2⟩ := Reps.get (i := i) h2 (by simpa using e)
   exact ⟨w, by simpa using q1, q2⟩
theorem Reps.append : ∀ {vs : List V} {ts : List T} {ws : List V} {us : List T}, Reps K H vs ts → Reps K H ws us → Reps K H (vs ++ ws) (ts ++ us)
 | vs, [], _, _, h, g => by unfold Reps at h; subst h; exact g
 | vs, t :: ts, _, _, h, g => by
   unfold Reps at h
   obtain ⟨v, r, rfl, h1, h2⟩ := h
   exact .cons h1 (Reps.append h2 g)
theorem Reps.take : ∀ {vs : List V} {ts : List T} (n : Nat), Reps K H vs ts → Reps K H (vs.take n) (ts.take n)
 | _, _, 0, _ => .nil
 | vs, [], n + 1, h => by unfold Reps at h; subst h; exact .nil
 | vs, t :: ts, n + 1, h => by
   unfold Reps at h
   obtain ⟨v, r, rfl, h1, h2⟩ := h
   exact .cons h1 (Reps.take n h2)
theorem Reps.drop : ∀ {vs : List V} {ts : List T} (n : Nat), Reps K H vs ts → Reps K H (vs.drop n) (ts.drop n)
 | _, _, 0, h => h
 | vs, [], n + 1, h => by unfold Reps at h; subst h; exact .nil
 | vs, t :: ts, n + 1, h => by
   unfold Reps at h
   obtain ⟨v, r, rfl, h1, h2⟩ := h
   exact Reps.drop n h2
theorem Reps.set {v : V} {t : T} (g : Rep K H v t) : ∀ {vs : List V} {ts : List T} (n : Nat), Reps K H vs ts → Reps K H (vs.set n v) (ts.set n t)
 | vs, [], n, h => by unfold Reps at h; subst h; exact .nil
 | vs, u :: ts, 0, h => by
   unfold Reps at h
   obtain ⟨v, r, rfl, h1, h2⟩ := h
   exact .cons g h2
 | vs, u :: ts, n + 1, h => by
   unfold Reps at h
   obtain ⟨v, r, rfl, h1, h2⟩ := h
   exact .cons h1 (Reps.set g n h2)
theorem Reps.ints : ∀ {vs : List V} {ns : List Int}, Reps K H vs (ns.map T.int) → vs = ns.map V.int
 | vs, [], h => by unfold Reps at h; exact h
 | vs, n :: ns, h => by
   have h' : Reps K H vs (T.int n :: ns.map T.int) := h
   unfold Reps at h'
   obtain ⟨v, r, rfl, h1, h2⟩ := h'
   unfold Rep at h1
   subst h1
   rw [List.map_cons, Reps.ints h2]
theorem Reps.of_ints : ∀ (ns : List Int), Reps K H (ns.map V.int) (ns.map T.int)
 | [] => .nil
 | n :: ns => .cons (by unfold Rep; rfl) (Reps.of_ints ns)
end
inductive MO where
 /-- a list that may be written -/
 | lst (ts : List T)
 /-- a dict that may be written: keys whole numbers or texts -/
 | dk (kvs : List (Key × T))
 /-- the same, keys tuples of such -/
 | dt (kvs : List (List Key × T))
 /-- the same, walked: it may not be written any more -/
 | fz (kvs : List (List Key × T))
 /-- a dict with keys whole numbers or texts that may not be written any more (a walk may go over it) -/
 | fk (kvs : List (Key × T))
 /-- an object of an own class, its fields -/
 | ob (C : Addr) (fs : List (Str × T))
noncomputable abbrev MH := Addr → Option MO
noncomputable def updM (M : MH) (a : Addr) (o : MO) : MH := fun b => if b = a then some o else M b
theorem a0d {M : MH} {a : Addr} {o : MO} : updM M a o a = some o := if_pos rfl
theorem a0x {M : MH} {a b : Addr} {o : MO} (h : b ≠ a) : updM M a o b = M b := if_neg h
noncomputable def Sub (M M' : MH) : Prop := ∀ a o, M a = some o → M' a = some o
theorem Sub.refl {M : MH} : Sub M M := fun _ _ h => h
theorem Sub.trans {M M1 M2 : MH} (a : Sub M M1) (b : Sub M1 M2) : Sub M M2 := fun _ _ h => b _ _ (a _ _ h)
theorem Sub.new {M : MH} {p : Addr} {o : MO} (h : M p = none) : Sub M (updM M p o) := fun b u q => by
 rw [a0x]
 ·exact q
 ·rintro rfl
  rw [h] at q; cases q
noncomputable def KRep {κ : Type} (K : PySem.W.Frag) (H : Hp) : List (κ × V) → List (κ × T) → Prop
 | [], [] => True
 | p :: r, q :: u => p.1 = q.1 ∧ Rep K H p.2 q.2 ∧ KRep K H r u
 | _, _ => False
theorem KRep.kp {κ : Type} {K : PySem.W.Frag} {H H' : Hp} (k : Kp K H H') : ∀ {xs : List (κ × V)} {kvs : List (κ × T)}, KRep K H xs kvs → KRep K H' xs kvs
 | [], [], _ => trivial
 | p :: r, q :: u, h => ⟨h.1, Rep.kp k _ _ h.2.1, KRep.kp k h.2.2⟩
 | [], q :: u, h => h.elim
 | p :: r, [], h => h.elim
theorem KRep.length {κ : Type} {K : PySem.W.Frag} {H : Hp} : ∀ {xs : List (κ × V)} {kvs : List (κ × T)}, KRep K H xs kvs → xs.length = kvs.length
 | [], [], _ => rfl
 | p :: r, q :: u, h => by rw [List.length_cons, List.length_cons, KRep.length h.2.2]
 | [], q :: u, h => h.elim
 | p :: r, [], h => h.elim
noncomputable def MOk (K : PySem.W.Frag) (H : Hp) (a : Addr) : MO → Prop
 | .lst ts => ∃ xs, H a = some (.lst xs) ∧ Reps K H xs ts
 | .dk kvs => ∃ xs, H a = some (.dK xs) ∧ KRep K H xs kvs
 | .dt kvs => ∃ xs, H a = some (.dT xs) ∧ KRep K H xs kvs
 | .fz kvs => ∃ o xs, H a = some (.frz o (.dT xs)) ∧ KRep K H xs kvs
 | .fk kvs => ∃ xs, Rd H a (.dK xs) ∧ KRep K H xs kvs
 | .ob C fs => ∃ dx xs, H a = some (.ins C dx xs) ∧ KRep K H xs fs
noncomputable def HR (K : PySem.W.Frag) (H : Hp) (M : MH) : Prop := ∀ a o, M a = some o → MOk K H a o
theorem HR.sub {K : PySem.W.Frag} {H : Hp} {M M' : MH} (h : HR K H M') (s : Sub M M') : HR K H M := fun a o e => h a o (s a o e)
noncomputable abbrev En := List (Option T)
noncomputable def RhoR (K : PySem.W.Frag) (σ : St) (H : Hp) (ρ : En) : Prop := σ.length = ρ.length ∧ ∀ (i : Nat) (t : T), ρ[i]? = some (some t) → ∃ v, σ[i]? = some (some v) ∧ Rep K H v t
theorem RhoR.kp {K : PySem.W.Frag} {σ : St} {H H' : Hp} {ρ : En} (h : RhoR K σ H ρ) (k : Kp K H H') : RhoR K σ H' ρ := ⟨h.1, fun i t e => let ⟨v, a, b⟩ := h.2 i t e; ⟨v, a, Rep.kp k _ _ b⟩⟩
theorem RhoR.set {K : PySem.W.Frag} {σ : St} {H : Hp} {ρ : En} {v : V} {t : T} (h : RhoR K σ H ρ) (i : Nat) (r : Rep K H v t) : RhoR K (σ.set i (some v)) H (ρ.set i (some t)) := by
 refine ⟨by rw [List.length_set, List.length_set, h.1], fun j u e => ?_⟩
 by_cases hj : i = j
 ·subst hj
  have hi : i < ρ.length := by
   have := (List.getElem?_eq_some_iff.mp e).1
   rwa [List.length_set] at this
  rw [List.getElem?_set_self hi] at e
  cases e
  exact ⟨v, List.getElem?_set_self (show i < List.length σ by rw [h.1]; exact hi), r⟩
 ·rw [List.getElem?_set_ne hj] at e
  rw [List.getElem?_set_ne hj]
  exact h.2 j u e
noncomputable abbrev VK3 := T → MH → Prop
noncomputable abbrev TE3 := En → MH → VK3 → Prop
noncomputable abbrev TT3 := En → MH → (Bool → MH → Prop) → Prop
noncomputable abbrev TA3 := En → MH → (List T → MH → Prop) → Prop
structure Ends3 where
 nx : En → MH → Prop
 rt : VK3
 bk : En → MH → Prop := fun _ _ => False
 ct : En → MH → Prop := fun _ _ => False
noncomputable abbrev TS3 := Ends3 → En → MH → Prop
noncomputable def EndE (K : PySem.W.Frag) (H : Hp) (Q : VK3) (Q2 : VK) : Prop := ∀ t v M' H', Kp K H H' → HR K H' M' → Rep K H' v t → Q t M' → Q2 v H'
theorem EndE.kp {K : PySem.W.Frag} {H H' : Hp} {Q : VK3} {Q2 : VK} (h : EndE K H Q Q2) (k : Kp K H H') : EndE K H' Q Q2 := fun t v M' H1 k1 => h t v M' H1 (k.trans k1)
noncomputable def bE (K : PySem.W.Frag) (ρ : En) (M : MH) (Q : VK3) : TE := fun σ H Q2 => RhoR K σ H ρ ∧ HR K H M ∧ EndE K H Q Q2
noncomputable def HE (X : Cx) (e : Expr) (t : TE3) : Prop := ∀ ρ M Q, t ρ M Q → PE X e (bE X.K ρ M Q)
noncomputable def EndT (K : PySem.W.Frag) (H : Hp) (Q : Bool → MH → Prop) (Q2 : Bool → Hp → Prop) : Prop := ∀ b M' H', Kp K H H' → HR K H' M' → Q b M' → Q2 b H'
noncomputable def bT (K : PySem.W.Frag) (ρ : En) (M : MH) (Q : Bool → MH → Prop) : TT := fun σ H Q2 => RhoR K σ H ρ ∧ HR K H M ∧ EndT K H Q Q2
noncomputable def HT (X : Cx) (e : Expr) (t : TT3) : Prop := ∀ ρ M Q, t ρ M Q → PT X e (bT X.K ρ M Q)
noncomputable def EndA (K : PySem.W.Frag) (H : Hp) (Q : List T → MH → Prop) (Q2 : List V → Hp → Prop) : Prop := ∀ ts vs M' H', Kp K H H' → HR K H' M' → Reps K H' vs ts → Q ts M' → Q2 vs H'
noncomputable def bA (K : PySem.W.Frag) (ρ : En) (M : MH) (Q : List T → MH → Prop) : TA := fun σ H Q2 => RhoR K σ H ρ ∧ HR K H M ∧ EndA K H Q Q2
noncomputable def HA (X : Cx) (es : List Expr) (t : TA3) : Prop := ∀ ρ M Q, t ρ M Q → PA X es (bA X.K ρ M Q)
structure EndS (K : PySem.W.Frag) (H : Hp) (D : Ends3) (D2 : Ends) : Prop where
 nx : ∀ ρ' M' σ' H', Kp K H H' → RhoR K σ' H' ρ' → HR K H' M' → D.nx ρ' M' → D2.nx σ' H'
 rt : EndE K H D.rt D2.rt
 bk : ∀ ρ' M' σ' H', Kp K H H' → RhoR K σ' H' ρ' → HR K H' M' → D.bk ρ' M' → D2.bk σ' H'
 ct : ∀ ρ' M' σ' H', Kp K H H' → RhoR K σ' H' ρ' → HR K H' M' → D.ct ρ' M' → D2.ct σ' H'
theorem EndS.kp {K : PySem.W.Frag} {H H' : Hp} {D : Ends3} {D2 : Ends} (h : EndS K H D D2) (k : Kp K H H') : EndS K H' D D2 :=
 ⟨fun a b c d k1 => h.nx a b c d (k.trans k1), h.rt.kp k, fun a b c d k1 => h.bk a b c d (k.trans k1), fun a b c d k1 => h.ct a b c d (k.trans k1)⟩
noncomputable def bS (K : PySem.W.Frag) (D : Ends3) (ρ : En) (M : MH) : TS := fun D2 σ H => RhoR K σ H ρ ∧ HR K H M ∧ EndS K H D D2
noncomputable def HS (X : Cx) (st : Stmt) (t : TS3) : Prop := ∀ D ρ M, t D ρ M → PS X st (bS X.K D ρ M)
noncomputable def HSs (X : Cx) (st : List Stmt) (t : TS3) : Prop := ∀ D ρ M, t D ρ M → PSs X st (bS X.K D ρ M)
noncomputable def dE (K : PySem.W.Frag) (ρ : En) (t : TE3) : TE := fun σ H Q2 => ∃ M Q, t ρ M Q ∧ bE K ρ M Q σ H Q2
noncomputable def dT (K : PySem.W.Frag) (ρ : En) (t : TT3) : TT := fun σ H Q2 => ∃ M Q, t ρ M Q ∧ bT K ρ M Q σ H Q2
noncomputable def dA (K : PySem.W.Frag) (ρ : En) (t : TA3) : TA := fun σ H Q2 => ∃ M Q, t ρ M Q ∧ bA K ρ M Q σ H Q2
noncomputable def dS (K : PySem.W.Frag) (t : TS3) : TS := fun D2 σ H => ∃ D ρ M, t D ρ M ∧ bS K D ρ M D2 σ H
section
variable {X : Cx} {e : Expr} {es : List Expr} {st : Stmt} {sts : List Stmt} {ρ : En}
theorem HE.d {t : TE3} (h : HE X e t) : PE X e (dE X.K ρ t) := fun pins s σ H Q I ⟨M, Q3, q, b⟩ => h ρ M Q3 q pins s σ H Q I b
theorem HT.d {t : TT3} (h : HT X e t) : PT X e (dT X.K ρ t) := fun pins s σ H Q I ⟨M, Q3, q, b⟩ => h ρ M Q3 q pins s σ H Q I b
theorem HA.d {t : TA3} (h : HA X es t) : PA X es (dA X.K ρ t) := fun pos pins s σ H Q I ⟨M, Q3, q, b⟩ => h ρ M Q3 q pos pins s σ H Q I b
theorem HS.d {t : TS3} (h : HS X st t) : PS X st (dS X.K t) := fun pins s σ H D I ⟨D3, ρ, M, q, b⟩ => h D3 ρ M q pins s σ H D I b
theorem HSs.d {t : TS3} (h : HSs X sts t) : PSs X sts (dS X.K t) := fun pins s σ H D I ⟨D3, ρ, M, q, b⟩ => h D3 ρ M q pins s σ H D I b
end
mutual
noncomputable def eqT : T → T → Bool
 | .non, .non => true
 | .bl a, .bl b => a == b
 | .bl a, .int b => (if a then 1 else 0) == b
 | .int a, .bl b => a == (if b then 1 else 0)
 | .int a, .int b => a == b
 | .str a, .str b => a == b
 | .tup a, .tup b => eqTs a b
 | _, _ => false
noncomputable def eqTs : List T → List T → Bool
 | [], [] => true
 | x :: xs, y :: ys => eqT x y && eqTs xs ys
 | _, _ => false
end
mutual
noncomputable def a0t : T → Bool
 | .adr _ => false
 | .rd _ => false
 | .dic _ _ => false
 | .tup ts => a1h ts
 | _ => true
noncomputable def a1h : List T → Bool
 | [] => true
 | t :: ts => a0t t && a1h ts
end
mutual
noncomputable def depT : T → Nat
 | .tup ts => a3R ts + 1
 | _ => 0
noncomputable def a3R : List T → Nat
 | [] => 0
 | t :: ts => max (depT t) (a3R ts)
end
theorem a2B : ∀ {ts : List T} {j : Nat} {t : T}, a1h ts = true → ts[j]? = some t → a0t t = true
 | [], _, _, _, e => by simp at e
 | x :: ts, 0, t, h, e => by simp at e; subst e; unfold a1h at h; exact (Bool.and_eq_true _ _ ▸ h).1
 | x :: ts, j + 1, t, h, e => by
   unfold a1h at h
   exact a2B (j := j) (Bool.and_eq_true _ _ ▸ h).2 (by simpa using e)
theorem a5z : ∀ {ts : List T} {j : Nat} {t : T}, ts[j]? = some t → depT t ≤ a3R ts
 | [], _, _, e => by simp at e
 | x :: ts, 0, t, e => by simp at e; subst e; unfold a3R; exact Nat.le_max_left _ _
 | x :: ts, j + 1, t, e => by
   have := a5z (ts := ts) (j := j) (t := t) (by simpa using e)
   unfold a3R; exact Nat.le_trans this (Nat.le_max_right _ _)
noncomputable def eqJ (xs ys : List T) (j : Nat) : Bool := match xs[j]?, ys[j]? with
 | some x, some y => eqT x y
 | _, _ => true
theorem a3w : ∀ (xs ys : List T), (((List.range (min xs.length ys.length)).all (eqJ xs ys)) && (xs.length == ys.length)) = eqTs xs ys
 | [], [] => by unfold eqTs; rfl
 | [], y :: ys => by unfold eqTs; simp
 | x :: xs, [] => by unfold eqTs; simp
 | x :: xs, y :: ys => by
   unfold eqTs
   rw [← a3w xs ys]
   rw [List.length_cons, List.length_cons, Nat.succ_min_succ, List.range_succ_eq_map, List.all_cons, List.all_map]
   have e1 : eqJ (x :: xs) (y :: ys) 0 = eqT x y := rfl
   have e2 : (eqJ (x :: xs) (y :: ys)) ∘ Nat.succ = eqJ xs ys := by
    funext j; simp [eqJ]
   rw [e1, e2, Bool.and_assoc]
   congr 2
   simp
theorem a9X : ∀ {xs ys : List T}, eqTs xs ys = true → xs.length = ys.length
 | [], [], _ => rfl
 | [], y :: ys, h => by unfold eqTs at h; cases h
 | x :: xs, [], h => by unfold eqTs at h; cases h
 | x :: xs, y :: ys, h => by
   unfold eqTs at h
   rw [Bool.and_eq_true] at h
   rw [List.length_cons, List.length_cons, a9X h.2]
mutual
theorem a9Y : ∀ (x : T), a0t x = true → eqT x x = true
 | .non, _ => rfl
 | .bl b, _ => by simp [eqT]
 | .int i, _ => by simp [eqT]
 | .str x, _ => by simp [eqT]
 | .adr a, h => by unfold a0t at h; cases h
 | .rd a, h => by unfold a0t at h; cases h
 | .dic ks a, h => by unfold a0t at h; cases h
 | .tup ts, h => by unfold a0t at h; unfold eqT; exact a5y ts h
theorem a5y : ∀ (xs : List T), a1h xs = true → eqTs xs xs = true
 | [], _ => by unfold eqTs; rfl
 | x :: xs, h => by
   unfold a1h at h
   rw [Bool.and_eq_true] at h
   unfold eqTs
   rw [a9Y x h.1, a5y xs h.2]
   rfl
end
section
variable {X : Cx} {pins : List (Addr × Obj)} {σ : St} {H : Hp} {s : Shared}
theorem b5A (I : Inv X pins σ H s) : ∀ (x y : T) (v : V), a0t x = true → a0t y = true → Rep X.K H v x → Rep X.K H v y → eqT x y = true := by
 have key : ∀ n (x y : T) (v : V), depT x ≤ n → a0t x = true → a0t y = true → Rep X.K H v x → Rep X.K H v y → eqT x y = true := by
  intro n
  induction n with
  | zero =>
    intro x y v hd px py rx ry
    cases x with
    | tup ts => unfold depT at hd; lia
    | adr a => unfold a0t at px; cases px
    | rd a => unfold a0t at px; cases px
    | dic ks a => unfold a0t at px; cases px
    | _ => unfold Rep at rx; subst rx; cases y <;> unfold Rep at ry <;> first | (obtain ⟨_, _, e, _⟩ := ry; cases e; done) | (unfold a0t at py; cases py; done) | (cases ry <;> simp [eqT])
  | succ n ih =>
    intro x y v hd px py rx ry
    cases x with
    | adr a => unfold a0t at px; cases px
    | rd a => unfold a0t at px; cases px
    | dic ks a => unfold a0t at px; cases px
    | tup ts =>
      unfold Rep at rx
      obtain ⟨a, xs, rfl, h1, h2⟩ := rx
      cases y with
      | adr a => unfold a0t at py; cases py
      | rd a => unfold a0t at py; cases py
      | dic ks a => unfold a0t at py; cases py
      | tup us =>
        unfold Rep at ry
        obtain ⟨a', ys, e, g1, g2⟩ := ry
        cases e
        obtain rfl := I.tuple_inj h1 g1
        unfold a0t at px py
        unfold depT at hd
        unfold eqT
        have hl := h2.length
        have hl2 := g2.length
        rw [← a3w]
        rw [← hl, ← hl2]
        simp only [Nat.min_self, beq_self_eq_true, Bool.and_true, List.all_eq_true, List.mem_range]
        intro j hj
        have e1 : ts[j]? = some ts[j] := List.getElem?_eq_getElem (by lia)
        have e2 : us[j]? = some us[j] := List.getElem?_eq_getElem (by lia)
        obtain ⟨v1, q1, r1⟩ := h2.get e1
        obtain ⟨v2, q2, r2⟩ := g2.get e2
        rw [q1] at q2; cases q2
        unfold eqJ
        rw [e1, e2]
        have := a5z e1
        exact ih _ _ _ (by lia) (a2B px e1) (a2B py e2) r1 r2
      | _ => unfold Rep at ry; cases ry
    | _ => unfold Rep at rx; subst rx; cases y <;> unfold Rep at ry <;> first | (obtain ⟨_, _, e, _⟩ := ry; cases e; done) | (unfold a0t at py; cases py; done) | (cases ry <;> simp [eqT])
 exact fun x y v => key (depT x) x y v (Nat.le_refl _)
open SeqAt in
theorem b2K {A : Around} (x y : T) (v u : V) (a b : Value) (px : a0t x = true) (py : a0t y = true) (rx : Rep X.K H v x) (ry : Rep X.K H u y) (ra : RelV v a) (rb : RelV u b) (nx : ∀ ts, x ≠ .tup ts) (ny : ∀ ts, y ≠ .tup ts) :
  SeqAt.EqAt A s a b (eqT x y) ∧ SeqAt.RcAt A s a b (eqT x y) ∧ SeqAt.RcNeAt A s a b (!(eqT x y)) := by
 cases x with
 | tup ts => exact absurd rfl (nx ts)
 | adr p => unfold a0t at px; cases px
 | rd p => unfold a0t at px; cases px
 | dic ks p => unfold a0t at px; cases px
 | non =>
   unfold Rep at rx; subst rx
   cases ra
   cases y with
   | tup ts => exact absurd rfl (ny ts)
   | adr p => unfold a0t at py; cases py
   | rd p => unfold a0t at py; cases py
   | dic ks p => unfold a0t at py; cases py
   | non =>
     unfold Rep at ry; subst ry
     cases rb
     have e : eqT .non .non = true := rfl
     rw [e]
     exact ⟨EqAt.same _, RcAt.none_none, RcNeAt.none_none⟩
   | bl c0 =>
     unfold Rep at ry; subst ry
     cases rb
     have e : eqT .non (.bl c0) = false := rfl
     rw [e]
     exact ⟨EqAt.none_bool _, RcAt.none_bool _, RcNeAt.none_bool _⟩
   | int c0 =>
     unfold Rep at ry; subst ry
     obtain ⟨t_rb, rfl⟩ := rb
     have e : eqT .non (.int c0) = false := rfl
     rw [e]
     exact ⟨EqAt.none_int _ _, RcAt.none_int _ _, RcNeAt.none_int _ _⟩
   | str c0 =>
     unfold Rep at ry; subst ry
     obtain ⟨t_rb, rfl⟩ := rb
     have e : eqT .non (.str c0) = false := rfl
     rw [e]
     exact ⟨EqAt.none_str _ _, RcAt.none_str _ _, RcNeAt.none_str _ _⟩
 | bl b0 =>
   unfold Rep at rx; subst rx
   cases ra
   cases y with
   | tup ts => exact absurd rfl (ny ts)
   | adr p => unfold a0t at py; cases py
   | rd p => unfold a0t at py; cases py
   | dic ks p => unfold a0t at py; cases py
   | non =>
     unfold Rep at ry; subst ry
     cases rb
     have e : eqT (.bl b0) .non = false := rfl
     rw [e]
     exact ⟨EqAt.bool_none _, RcAt.bool_none _, RcNeAt.bool_none _⟩
   | bl c0 =>
     unfold Rep at ry; subst ry
     cases rb
     have e : eqT (.bl b0) (.bl c0) = (b0 == c0) := rfl
     rw [e]
     exact ⟨EqAt.bool_bool _ _, RcAt.bool_bool _ _, RcNeAt.bool_bool _ _⟩
   | int c0 =>
     unfold Rep at ry; subst ry
     obtain ⟨t_rb, rfl⟩ := rb
     have e : eqT (.bl b0) (.int c0) = ((if b0 then 1 else 0) == c0) := rfl
     rw [e]
     exact ⟨EqAt.bool_int _ _ _, RcAt.bool_int _ _ _, RcNeAt.bool_int _ _ _⟩
   | str c0 =>
     unfold Rep at ry; subst ry
     obtain ⟨t_rb, rfl⟩ := rb
     have e : eqT (.bl b0) (.str c0) = false := rfl
     rw [e]
     exact ⟨EqAt.bool_str _ _ _, RcAt.bool_str _ _ _, RcNeAt.bool_str _ _ _⟩
 | int b0 =>
   unfold Rep at rx; subst rx
   obtain ⟨t_ra, rfl⟩ := ra
   cases y with
   | tup ts => exact absurd rfl (ny ts)
   | adr p => unfold a0t at py; cases py
   | rd p => unfold a0t at py; cases py
   | dic ks p => unfold a0t at py; cases py
   | non =>
     unfold Rep at ry; subst ry
     cases rb
     have e : eqT (.int b0) .non = false := rfl
     rw [e]
     exact ⟨EqAt.int_none _ _, RcAt.int_none _ _, RcNeAt.int_none _ _⟩
   | bl c0 =>
     unfold Rep at ry; subst ry
     cases rb
     have e : eqT (.int b0) (.bl c0) = (b0 == (if c0 then 1 else 0)) := rfl
     rw [e]
     exact ⟨EqAt.int_bool _ _ _, RcAt.int_bool _ _ _, RcNeAt.int_bool _ _ _⟩
   | int c0 =>
     unfold Rep at ry; subst ry
     obtain ⟨t_rb, rfl⟩ := rb
     have e : eqT (.int b0) (.int c0) = (b0 == c0) := rfl
     rw [e]
     exact ⟨EqAt.int_int _ _ _ _, RcAt.int_int _ _ _ _, RcNeAt.int_int _ _ _ _⟩
   | str c0 =>
     unfold Rep at ry; subst ry
     obtain ⟨t_rb, rfl⟩ := rb
     have e : eqT (.int b0) (.str c0) = false := rfl
     rw [e]
     exact ⟨EqAt.int_str _ _ _ _, RcAt.int_str _ _ _ _, RcNeAt.int_str _ _ _ _⟩
 | str b0 =>
   unfold Rep at rx; subst rx
   obtain ⟨t_ra, rfl⟩ := ra
   cases y with
   | tup ts => exact absurd rfl (ny ts)
   | adr p => unfold a0t at py; cases py
   | rd p => unfold a0t at py; cases py
   | dic ks p => unfold a0t at py; cases py
   | non =>
     unfold Rep at ry; subst ry
     cases rb
     have e : eqT (.str b0) .non = false := rfl
     rw [e]
     exact ⟨EqAt.str_none _ _, RcAt.str_none _ _, RcNeAt.str_none _ _⟩
   | bl c0 =>
     unfold Rep at ry; subst ry
     cases rb
     have e : eqT (.str b0) (.bl c0) = false := rfl
     rw [e]
     exact ⟨EqAt.str_bool _ _ _, RcAt.str_bool _ _ _, RcNeAt.str_bool _ _ _⟩
   | int c0 =>
     unfold Rep at ry; subst ry
     obtain ⟨t_rb, rfl⟩ := rb
     have e : eqT (.str b0) (.int c0) = false := rfl
     rw [e]
     exact ⟨EqAt.str_int _ _ _ _, RcAt.str_int _ _ _ _, RcNeAt.str_int _ _ _ _⟩
   | str c0 =>
     unfold Rep at ry; subst ry
     obtain ⟨t_rb, rfl⟩ := rb
     have e : eqT (.str b0) (.str c0) = (b0 == c0) := rfl
     rw [e]
     exact ⟨EqAt.str_str _ _ _ _, RcAt.str_str _ _ _ _, RcNeAt.str_str _ _ _ _⟩
theorem c0e {x : T} (h : ∀ ts, x ≠ .tup ts) : depT x = 0 := by
 cases x with
 | tup ts => exact absurd rfl (h ts)
 | _ => rfl
open SeqAt in
/-- a tuple against what is none -/
theorem b0S {A : Around} {p : Addr} {its : Array Value} (ht : s.heap.IsTuple p its) (hu : A.units < cLine) (x : T) (us : List T) (v : V) (a : Value) (px : a0t x = true) (rx : Rep X.K H v x) (ra : RelV v a) (nx : ∀ ts, x ≠ .tup ts) :
  SeqAt.EqAt A s a (.ref p) (eqT x (.tup us)) ∧ SeqAt.RcAt A s a (.ref p) (eqT x (.tup us)) ∧ SeqAt.RcNeAt A s a (.ref p) (!(eqT x (.tup us))) := by
 cases x with
 | tup ts => exact absurd rfl (nx ts)
 | adr q => unfold a0t at px; cases px
 | rd q => unfold a0t at px; cases px
 | dic ks q => unfold a0t at px; cases px
 | non =>
   unfold Rep at rx; subst rx; cases ra
   have e : eqT .non (.tup us) = false := rfl
   rw [e]; exact ⟨.none_tuple ht hu, .none_tuple ht hu, .none_tuple ht hu⟩
 | bl b0 =>
   unfold Rep at rx; subst rx; cases ra
   have e : eqT (.bl b0) (.tup us) = false := rfl
   rw [e]; exact ⟨.bool_tuple _ ht hu, .bool_tuple _ ht hu, .bool_tuple _ ht hu⟩
 | int b0 =>
   unfold Rep at rx; subst rx; obtain ⟨t, rfl⟩ := ra
   have e : eqT (.int b0) (.tup us) = false := rfl
   rw [e]; exact ⟨.int_tuple _ _ ht hu, .int_tuple _ _ ht hu, .int_tuple _ _ ht hu⟩
 | str b0 =>
   unfold Rep at rx; subst rx; obtain ⟨t, rfl⟩ := ra
   have e : eqT (.str b0) (.tup us) = false := rfl
   rw [e]; exact ⟨.str_tuple _ _ ht hu, .str_tuple _ _ ht hu, .str_tuple _ _ ht hu⟩
open SeqAt in
theorem b0T {A : Around} {p : Addr} {its : Array Value} (ht : s.heap.IsTuple p its) (hu : A.units < cLine) (x : T) (us : List T) (v : V) (a : Value) (px : a0t x = true) (rx : Rep X.K H v x) (ra : RelV v a) (nx : ∀ ts, x ≠ .tup ts) :
  SeqAt.EqAt A s (.ref p) a (eqT (.tup us) x) ∧ SeqAt.RcAt A s (.ref p) a (eqT (.tup us) x) ∧ SeqAt.RcNeAt A s (.ref p) a (!(eqT (.tup us) x)) := by
 cases x with
 | tup ts => exact absurd rfl (nx ts)
 | adr q => unfold a0t at px; cases px
 | rd q => unfold a0t at px; cases px
 | dic ks q => unfold a0t at px; cases px
 | non =>
   unfold Rep at rx; subst rx; cases ra
   have e : eqT (.tup us) .non = false := rfl
   rw [e]; exact ⟨.tuple_none ht hu, .tuple_none ht hu, .tuple_none ht hu⟩
 | bl b0 =>
   unfold Rep at rx; subst rx; cases ra
   have e : eqT (.tup us) (.bl b0) = false := rfl
   rw [e]; exact ⟨.tuple_bool _ ht hu, .tuple_bool _ ht hu, .tuple_bool _ ht hu⟩
 | int b0 =>
   unfold Rep at rx; subst rx; obtain ⟨t, rfl⟩ := ra
   have e : eqT (.tup us) (.int b0) = false := rfl
   rw [e]; exact ⟨.tuple_int _ _ ht hu, .tuple_int _ _ ht hu, .tuple_int _ _ ht hu⟩
 | str b0 =>
   unfold Rep at rx; subst rx; obtain ⟨t, rfl⟩ := ra
   have e : eqT (.tup us) (.str b0) = false := rfl
   rw [e]; exact ⟨.tuple_str _ _ ht hu, .tuple_str _ _ ht hu, .tuple_str _ _ ht hu⟩
theorem a9p (x : T) : (∃ ts, x = .tup ts) ∨ ∀ ts, x ≠ .tup ts := by
 cases x with
 | tup ts => exact .inl ⟨ts, rfl⟩
 | _ => exact .inr fun ts e => by cases e
theorem a9Q {A : Around} {n : Nat} {ts us : List T} {xs ys : List V} {its its2 : List Value} (px : a1h ts = true) (py : a1h us = true) (hd : a3R ts ≤ n) (h2 : Reps X.K H xs ts) (g2 : Reps X.K H ys us) (r1 : Vals xs its) (r2 : Vals ys its2)
  (ih : ∀ (x y : T) (v u : V) (a b : Value), depT x ≤ n → a0t x = true → a0t y = true → Rep X.K H v x → Rep X.K H u y → RelV v a → RelV u b → SeqAt.EqAt A s a b (eqT x y)) (j : Nat) (hj1 : j < its.toArray.size) (hj2 : j < its2.toArray.size) :
  SeqAt.EqAt A s its.toArray[j] its2.toArray[j] (eqJ ts us j) := by
 have l1 := h2.length
 have l2 := g2.length
 have m1 := r1.length
 have m2 := r2.length
 have hj1' : j < its.length := by simpa using hj1
 have hj2' : j < its2.length := by simpa using hj2
 have e1 : ts[j]? = some (ts[j]'(by lia)) := List.getElem?_eq_getElem (by lia)
 have e2 : us[j]? = some (us[j]'(by lia)) := List.getElem?_eq_getElem (by lia)
 obtain ⟨v1, a1, b1⟩ := h2.get e1
 obtain ⟨v2, a2, b2⟩ := g2.get e2
 obtain ⟨w1, c1, d1⟩ := r1.get a1
 obtain ⟨w2, c2, d2⟩ := r2.get a2
 have f1 : its.toArray[j] = w1 := by
  have : its[j]? = some (its[j]'hj1') := List.getElem?_eq_getElem hj1'
  rw [c1] at this
  simpa using (Option.some.inj this).symm
 have f2 : its2.toArray[j] = w2 := by
  have : its2[j]? = some (its2[j]'hj2') := List.getElem?_eq_getElem hj2'
  rw [c2] at this
  simpa using (Option.some.inj this).symm
 have e3 : eqJ ts us j = eqT (ts[j]'(by lia)) (us[j]'(by lia)) := by unfold eqJ; rw [e1, e2]
 rw [f1, f2, e3]
 have := a5z e1
 exact ih _ _ v1 v2 w1 w2 (by lia) (a2B px e1) (a2B py e2) b1 b2 d1 d2
open SeqAt in
/-- == (by identity first), ==, != of two values, by their trees -/
theorem b2L (I : Inv X pins σ H s) : ∀ n (A : Around) (x y : T) (v u : V) (a b : Value), depT x ≤ n → A.units + n + 1 < cLine → a0t x = true → a0t y = true → Rep X.K H v x → Rep X.K H u y → RelV v a → RelV u b →
  SeqAt.EqAt A s a b (eqT x y) ∧ SeqAt.RcAt A s a b (eqT x y) ∧ SeqAt.RcNeAt A s a b (!(eqT x y)) := by
 intro n
 induction n with
 | zero =>
   intro A x y v u a b hd hu px py rx ry ra rb
   rcases a9p x with ⟨ts, rfl⟩ | nx
   ·unfold depT at hd; lia
   ·rcases a9p y with ⟨us, rfl⟩ | ny
    ·unfold Rep at ry
     obtain ⟨p, ys, rfl, g1, g2⟩ := ry
     obtain ⟨its, r', ht, _⟩ := I.tuple g1
     have ht' : s.heap.IsTuple p its.toArray := ht
     cases rb
     exact b0S ht' (by lia) x us v a px rx ra nx
    ·exact b2K x y v u a b px py rx ry ra rb nx ny
 | succ n ih =>
   intro A x y v u a b hd hu px py rx ry ra rb
   have hu' : A.units < cLine := by lia
   rcases a9p x with ⟨ts, rfl⟩ | nx
   ·have rx' := rx
    unfold Rep at rx
    obtain ⟨p, xs, rfl, h1, h2⟩ := rx
    cases ra
    obtain ⟨its, r1, ht, _⟩ := I.tuple h1
    have ht' : s.heap.IsTuple p its.toArray := ht
    rcases a9p y with ⟨us, rfl⟩ | ny
    ·have ry' := ry
     unfold Rep at ry
     obtain ⟨q, ys, rfl, g1, g2⟩ := ry
     cases rb
     obtain ⟨its2, r2, ht2, _⟩ := I.tuple g1
     have ht2' : s.heap.IsTuple q its2.toArray := ht2
     have px' := px
     have py' := py
     unfold a0t at px py
     unfold depT at hd
     have he := a9Q (A := A.in1) (s := s) (n := n) px py (by lia) h2 g2 r1 r2 fun x y v u a b hx px py rx ry ra rb => (ih A.in1 x y v u a b hx (by show A.units + 1 + n + 1 < cLine; lia) px py rx ry ra rb).1
     have ee : ((List.range (min its.toArray.size its2.toArray.size)).all (eqJ ts us) && its.toArray.size == its2.toArray.size) = eqT (.tup ts) (.tup us) := by
      have l1 := h2.length
      have l2 := g2.length
      have m1 := r1.length
      have m2 := r2.length
      unfold eqT
      rw [← a3w, List.size_toArray, List.size_toArray, ← m1, ← m2, l1, l2]
     have rc := RcAt.tuples (A := A) (e := eqJ ts us) ht' ht2' hu' he
     have rn := RcNeAt.tuples (A := A) (e := eqJ ts us) ht' ht2' hu' he
     rw [ee] at rc rn
     refine ⟨?_, rc, rn⟩
     by_cases hpq : p = q
     ·subst hpq
      have e : eqT (.tup ts) (.tup us) = true := b5A I (.tup ts) (.tup us) (.ref p) px' py' rx' ry'
      rw [e]; exact .same _
     ·exact .of_refs hpq rc
    ·exact b0T ht' hu' y ts u b py ry rb ny
   ·exact ih A x y v u a b (by rw [c0e nx]; exact Nat.zero_le _) (by lia) px py rx ry ra rb
end
noncomputable abbrev R3 := T → T → MH → VK3 → Prop
noncomputable def dR (K : PySem.W.Frag) (r : R3) : R2 := fun v u H Q2 => ∃ x y M Q, Rep K H v x ∧ Rep K H u y ∧ HR K H M ∧ r x y M Q ∧ EndE K H Q Q2
noncomputable def dU (K : PySem.W.Frag) (r : T → MH → VK3 → Prop) : V → Hp → VK → Prop := fun v H Q2 => ∃ x M Q, Rep K H v x ∧ HR K H M ∧ r x M Q ∧ EndE K H Q Q2
noncomputable def dL (K : PySem.W.Frag) (r : List T → MH → VK3 → Prop) : List V → Hp → VK → Prop := fun vs H Q2 => ∃ xs M Q, Reps K H vs xs ∧ HR K H M ∧ r xs M Q ∧ EndE K H Q Q2
theorem Kp.new {K : PySem.W.Frag} {H : Hp} {p : Addr} {o : HO} (h : H p = none) : Kp K H (upd H p o) := by
 refine ⟨fun a xs q => ?_, fun a ob u q => by rw [a0l (a0k q h)]; exact q, fun a xs q => by rw [a0l (a0k q h)]; exact q⟩
 rcases q with (q | ⟨ob, q⟩) | q
 ·exact .inl (.inl (by rw [a0l (a0k q h)]; exact q))
 ·exact .inl (.inr ⟨ob, by rw [a0l (a0k q h)]; exact q⟩)
 ·exact .inr q
theorem Kp.lst {K : PySem.W.Frag} {H : Hp} {p : Addr} {xs ys : List V} (h : H p = some (.lst xs)) : Kp K H (upd H p (.lst ys)) := by
 have ne : ∀ {a : Addr} {o : HO}, H a = some o → o ≠ .lst xs → a ≠ p := fun {a o} q hn e => by
  subst e
  rw [h] at q; cases q; exact hn rfl
 refine ⟨fun a zs q => ?_, fun a ob u q => by rw [a0l (ne q (by intro z; cases z))]; exact q, fun a xs q => by rw [a0l (ne q (by intro z; cases z))]; exact q⟩
 rcases q with (q | ⟨ob, q⟩) | q
 ·exact .inl (.inl (by rw [a0l (ne q (by intro z; cases z))]; exact q))
 ·exact .inl (.inr ⟨ob, by rw [a0l (ne q (by intro z; cases z))]; exact q⟩)
 ·exact .inr q
theorem Kp.dict {K : PySem.W.Frag} {H : Hp} {p : Addr} {o u : HO} (h : H p = some o) (ho : (∃ kvs, o = .dK kvs) ∨ ∃ kvs, o = .dT kvs) : Kp K H (upd H p u) := by
 have ne : ∀ {a : Addr} {u : HO}, H a = some u → ((∃ xs, u = .tup xs) ∨ ∃ b x, u = .frz b x) → a ≠ p := fun {a u} q hn e => by
  subst e
  rw [h] at q; cases q
  rcases ho with ⟨_, rfl⟩ | ⟨_, rfl⟩ <;> rcases hn with ⟨_, z⟩ | ⟨_, _, z⟩ <;> cases z
 refine ⟨fun a zs q => ?_, fun a ob u q => by rw [a0l (ne q (.inr ⟨_, _, rfl⟩))]; exact q, fun a xs q => by rw [a0l (ne q (.inl ⟨_, rfl⟩))]; exact q⟩
 rcases q with (q | ⟨ob, q⟩) | q
 ·exact .inl (.inl (by rw [a0l (ne q (.inl ⟨_, rfl⟩))]; exact q))
 ·exact .inl (.inr ⟨ob, by rw [a0l (ne q (.inr ⟨_, _, rfl⟩))]; exact q⟩)
 ·exact .inr q
section
variable {K : PySem.W.Frag} {H : Hp} {M : MH}
noncomputable def Wr : HO → Prop
 | .lst _ => True
 | .dK _ => True
 | .dT _ => True
 | .frz _ _ => True
 | .ins _ _ _ => True
 | _ => False
theorem MOk.kp {H' : Hp} {a : Addr} {o : MO} (h : MOk K H a o) (k : Kp K H H') (ha : ∀ u, Wr u → H a = some u → H' a = some u) : MOk K H' a o := by
 cases o with
 | lst ts => obtain ⟨xs, e, r⟩ := h; exact ⟨xs, ha _ trivial e, Reps.kp k _ _ r⟩
 | dk kvs => obtain ⟨xs, e, r⟩ := h; exact ⟨xs, ha _ trivial e, r.kp k⟩
 | dt kvs => obtain ⟨xs, e, r⟩ := h; exact ⟨xs, ha _ trivial e, r.kp k⟩
 | fz kvs => obtain ⟨ob, xs, e, r⟩ := h; exact ⟨ob, xs, k.frz _ _ _ e, r.kp k⟩
 | fk kvs =>
   obtain ⟨xs, e, r⟩ := h
   rcases e with e | ⟨ob, e⟩
   ·exact ⟨xs, .inl (ha _ trivial e), r.kp k⟩
   ·exact ⟨xs, .inr ⟨ob, k.frz _ _ _ e⟩, r.kp k⟩
 | ob C fs => obtain ⟨dx, xs, e, r⟩ := h; exact ⟨dx, xs, ha _ trivial e, r.kp k⟩
theorem MOk.some {a : Addr} {o : MO} (h : MOk K H a o) : ∃ u, H a = Option.some u ∧ Wr u := by
 cases o with
 | lst ts => obtain ⟨xs, e, r⟩ := h; exact ⟨_, e, trivial⟩
 | dk kvs => obtain ⟨xs, e, r⟩ := h; exact ⟨_, e, trivial⟩
 | dt kvs => obtain ⟨xs, e, r⟩ := h; exact ⟨_, e, trivial⟩
 | fz kvs => obtain ⟨ob, xs, e, r⟩ := h; exact ⟨_, e, trivial⟩
 | fk kvs =>
   obtain ⟨xs, e, r⟩ := h
   rcases e with e | ⟨ob, e⟩
   ·exact ⟨_, e, trivial⟩
   ·exact ⟨_, e, trivial⟩
 | ob C fs => obtain ⟨dx, xs, e, r⟩ := h; exact ⟨_, e, trivial⟩
theorem HR.free {p : Addr} (h : HR K H M) (hp : H p = none) : M p = none := by
 cases q : M p with
 | none => rfl
 | some o =>
   obtain ⟨u, e, _⟩ := (h p o q).some
   rw [hp] at e; cases e
theorem HR.keep {p : Addr} {o : HO} (h : HR K H M) (hp : H p = none) : HR K (upd H p o) M := fun a u e =>
 (h a u e).kp (Kp.new hp) fun u _ q => by rw [a0l (a0k q hp)]; exact q
theorem HR.newL {p : Addr} {xs : List V} {ts : List T} (h : HR K H M) (hp : H p = none) (r : Reps K H xs ts) : HR K (upd H p (.lst xs)) (updM M p (.lst ts)) := fun a u e => by
 by_cases ha : a = p
 ·subst ha
  rw [a0d] at e; cases e
  exact ⟨xs, a0s, Reps.kp (Kp.new hp) _ _ r⟩
 ·rw [a0x ha] at e
  exact (h.keep hp) a u e
theorem HR.setL {p : Addr} {xs ys : List V} {us : List T} (h : HR K H M) (hp : H p = some (.lst xs)) (r : Reps K H ys us) : HR K (upd H p (.lst ys)) (updM M p (.lst us)) := fun a u e => by
 by_cases ha : a = p
 ·subst ha
  rw [a0d] at e; cases e
  exact ⟨ys, a0s, Reps.kp (Kp.lst hp) _ _ r⟩
 ·rw [a0x ha] at e
  exact (h a u e).kp (Kp.lst hp) fun u _ q => by rw [a0l ha]; exact q
theorem HR.newK {p : Addr} {xs : List (Key × V)} {kvs : List (Key × T)} (h : HR K H M) (hp : H p = none) (r : KRep K H xs kvs) : HR K (upd H p (.dK xs)) (updM M p (.dk kvs)) := fun a u e => by
 by_cases ha : a = p
 ·subst ha
  rw [a0d] at e; cases e
  exact ⟨xs, a0s, r.kp (Kp.new hp)⟩
 ·rw [a0x ha] at e
  exact (h.keep hp) a u e
theorem HR.newT {p : Addr} {xs : List (List Key × V)} {kvs : List (List Key × T)} (h : HR K H M) (hp : H p = none) (r : KRep K H xs kvs) : HR K (upd H p (.dT xs)) (updM M p (.dt kvs)) := fun a u e => by
 by_cases ha : a = p
 ·subst ha
  rw [a0d] at e; cases e
  exact ⟨xs, a0s, r.kp (Kp.new hp)⟩
 ·rw [a0x ha] at e
  exact (h.keep hp) a u e
theorem HR.setK {p : Addr} {o : HO} {xs : List (Key × V)} {kvs : List (Key × T)} (h : HR K H M) (hp : H p = some o) (ho : (∃ kvs, o = .dK kvs) ∨ ∃ kvs, o = .dT kvs) (r : KRep K H xs kvs) : HR K (upd H p (.dK xs)) (updM M p (.dk kvs)) := fun a u e => by
 by_cases ha : a = p
 ·subst ha
  rw [a0d] at e; cases e
  exact ⟨xs, a0s, r.kp (Kp.dict hp ho)⟩
 ·rw [a0x ha] at e
  exact (h a u e).kp (Kp.dict hp ho) fun u _ q => by rw [a0l ha]; exact q
theorem HR.setT {p : Addr} {o : HO} {xs : List (List Key × V)} {kvs : List (List Key × T)} (h : HR K H M) (hp : H p = some o) (ho : (∃ kvs, o = .dK kvs) ∨ ∃ kvs, o = .dT kvs) (r : KRep K H xs kvs) : HR K (upd H p (.dT xs)) (updM M p (.dt kvs)) := fun a u e => by
 by_cases ha : a = p
 ·subst ha
  rw [a0d] at e; cases e
  exact ⟨xs, a0s, r.kp (Kp.dict hp ho)⟩
 ·rw [a0x ha] at e
  exact (h a u e).kp (Kp.dict hp ho) fun u _ q => by rw [a0l ha]; exact q
end
noncomputable def OpR3 (X : Cx) (f : Value → Value → Sem Value) (r : R3) : Prop := OpR X f (dR X.K r)
noncomputable def UnR3 (X : Cx) (f : Value → Sem Value) (r : T → MH → VK3 → Prop) : Prop := UnR X f (dU X.K r)
noncomputable def a2E (X : Cx) (f : Value) (r : List T → MH → VK3 → Prop) : Prop := a4T X f (dL X.K r)
noncomputable def IxR3 (X : Cx) (r : R3) : Prop := IxR X (dR X.K r)
noncomputable def tOp3 (r : R3) (ta tb : TE3) : TE3 := fun ρ M Q => ta ρ M fun x M1 => tb ρ M1 fun y M2 => r x y M2 Q
noncomputable def tUn3 (r : T → MH → VK3 → Prop) (ta : TE3) : TE3 := fun ρ M Q => ta ρ M fun x M1 => r x M1 Q
noncomputable def b3r (i : Nat) : TE3 := fun ρ M Q => match ρ[i]? with
 | some (some t) => Q t M
 | _ => False
noncomputable def tK (t : T) : TE3 := fun _ M Q => Q t M
section
variable {X : Cx} {a b c e : Expr} {es : List Expr} {ta tb tc te : TE3} {pos : Pos}
theorem dOp {ρ : En} {M : MH} {Q : VK3} {r : R3} (h : tOp3 r ta tb ρ M Q) {σ : St} {H : Hp} {Q2 : VK} (b : bE X.K ρ M Q σ H Q2) : tOp (dR X.K r) (dE X.K ρ ta) (dE X.K ρ tb) σ H Q2 := by
 obtain ⟨hr, hh, en⟩ := b
 refine ⟨M, _, h, hr, hh, fun t v M1 H1 k1 h1 r1 q1 => ⟨M1, _, q1, hr.kp k1, h1, fun t2 v2 M2 H2 k2 h2 r2 q2 => ⟨t, t2, M2, Q, Rep.kp k2 _ _ r1, r2, h2, q2, en.kp (k1.trans k2)⟩⟩⟩
theorem a0q {op : Operator} {r : R3} (ho : OpR3 X (binaryOp op) r) (ha : HE X a ta) (hb : HE X b tb) : HE X (.BinOp a op b pos) (tOp3 r ta tb) := fun ρ M Q h =>
 (b9G ho (ha.d (ρ := ρ)) (hb.d (ρ := ρ))).imp fun σ H Q2 b => dOp h b
theorem h_un {op : UnaryOp} {r : T → MH → VK3 → Prop} (ho : UnR3 X (unaryOp op) r) (ha : HE X a ta) : HE X (.UnaryOp op a pos) (tUn3 r ta) := fun ρ M Q h =>
 (b9F ho (ha.d (ρ := ρ))).imp fun σ H Q2 ⟨hr, hh, en⟩ => ⟨M, _, h, hr, hh, fun t v M1 H1 k1 h1 r1 q1 => ⟨t, M1, Q, r1, h1, q1, en.kp k1⟩⟩
theorem b9V {i : Nat} {x : Str} (hN : X.N[i]? = some x) (hv : Vis X.env.scope x) (hd : (x == ("__debug__" : Str)) = false := by decide) (hcd : (x == ("__classdict__" : Str)) = false := by decide) : HE X (.Name x pos) (b3r i) := fun ρ M Q h =>
 (b7Q hN hv hd hcd).imp fun σ H Q2 ⟨hr, hh, en⟩ => by
  unfold b3r at h
  split at h
  ·rename_i t e
   obtain ⟨v, e1, r⟩ := hr.2 i t e
   exact ⟨v, e1, en t v M H Kp.refl hh r h⟩
  ·exact h.elim
theorem hv (i : Nat) {x : Str} {pos : Pos} (hN : X.N[i]? = some x := by rfl) (hv : Vis X.env.scope x := by first | exact Or.inl rfl | exact Or.inr (Or.inl rfl) | exact Or.inr (Or.inr rfl)) (hd : (x == ("__debug__" : Str)) = false := by decide)
  (hcd : (x == ("__classdict__" : Str)) = false := by decide) : HE X (.Name x pos) (b3r i) := b9V hN hv hd hcd
theorem a0w {K : PySem.W.Frag} {H : Hp} {i : Int} : Rep K H (.int i) (.int i) := by unfold Rep; rfl
theorem a2Y {K : PySem.W.Frag} {H : Hp} {i : Bool} : Rep K H (.bl i) (.bl i) := by unfold Rep; rfl
theorem a8D {K : PySem.W.Frag} {H : Hp} {i : Str} : Rep K H (.str i) (.str i) := by unfold Rep; rfl
theorem b1F {K : PySem.W.Frag} {H : Hp} : Rep K H .non .non := by unfold Rep; rfl
theorem a1g {K : PySem.W.Frag} {H : Hp} {a : Addr} : Rep K H (.ref a) (.adr a) := by unfold Rep; rfl
theorem a1f {K : PySem.W.Frag} {H : Hp} {a : Addr} {xs : List V} {ts : List T} (h : SqT K H a xs) (r : Reps K H xs ts) : Rep K H (.ref a) (.tup ts) := by unfold Rep; exact ⟨a, xs, rfl, h, r⟩
theorem a8Y {v : V} {t : T} (h : PE X e (tC v)) (r : ∀ K H, Rep K H v t) : HE X e (tK t) := fun ρ M Q q => h.imp fun σ H Q2 ⟨hr, hh, en⟩ => en t v M H Kp.refl hh (r _ _) q
theorem a0f {i j pos} : HE X (.Constant (.int i) j pos) (tK (.int i)) := a8Y b7V fun _ _ => a0w
theorem h_bl {b j pos} : HE X (.Constant (.bool b) j pos) (tK (.bl b)) := a8Y b9J fun _ _ => a2Y
theorem b2B {x : Str} {i : Int} {tk : Tok} {pos : Pos} (hm : X.mg x = some (.int i tk)) (hg : Gl X x := by rfl) (hd : (x == ("__debug__" : Str)) = false := by decide) : HE X (.Name x pos) (tK (.int i)) := a8Y (v := .int i) (b1N hg hm ⟨tk, rfl⟩ hd) fun _ _ => a0w
theorem a0p {K : PySem.W.Frag} {H : Hp} {v : V} {i : Int} (r : Rep K H v (.int i)) : v = .int i := by unfold Rep at r; exact r
theorem a2T {K : PySem.W.Frag} {H : Hp} {v : V} {i : Str} (r : Rep K H v (.str i)) : v = .str i := by unfold Rep at r; exact r
theorem a4n {K : PySem.W.Frag} {H : Hp} {v : V} {i : Bool} (r : Rep K H v (.bl i)) : v = .bl i := by unfold Rep at r; exact r
theorem b2v {K : PySem.W.Frag} {H : Hp} {v : V} (r : Rep K H v .non) : v = .non := by unfold Rep at r; exact r
theorem a0v {K : PySem.W.Frag} {H : Hp} {v : V} {a : Addr} (r : Rep K H v (.adr a)) : v = .ref a := by unfold Rep at r; exact r
theorem a0H {K : PySem.W.Frag} {H : Hp} {v : V} {ts : List T} (r : Rep K H v (.tup ts)) : ∃ a xs, v = .ref a ∧ SqT K H a xs ∧ Reps K H xs ts := by unfold Rep at r; exact r
noncomputable def rInt (C : Int → Int → Prop) (g : Int → Int → Int) : R3 := fun x y M Q => match x, y with
 | .int i, .int j => C i j ∧ Q (.int (g i j)) M
 | _, _ => False
theorem a8K {f : Value → Value → Sem Value} {C : Int → Int → Prop} {g : Int → Int → Int} (h : OpR X f (rI C fun i j => .int (g i j))) : OpR3 X f (rInt C g) := by
 intro pins s σ H x y v u Q2 I rx ry q
 obtain ⟨a, b, M, Q, r1, r2, hh, q, en⟩ := q
 unfold rInt at q
 split at q
 ·obtain rfl := a0p r1
  obtain rfl := a0p r2
  exact h pins s σ H _ _ v u Q2 I rx ry ⟨_, _, rfl, rfl, q.1, en _ _ M H Kp.refl hh a0w q.2⟩
 ·exact q.elim
noncomputable def b5F : R3 := fun x y M Q => match x, y with
 | .int i, .int j => Q (.int (i - j)) M
 | _, _ => False
theorem a2a : OpR3 X (binaryOp .Sub) b5F := by
 intro pins s σ H x y v u Q2 I rx ry q
 obtain ⟨a, b, M, Q, r1, r2, hh, q, en⟩ := q
 unfold b5F at q
 split at q
 ·obtain rfl := a0p r1
  obtain rfl := a0p r2
  exact b7Z pins s σ H _ _ v u Q2 I rx ry ⟨_, _, rfl, rfl, en _ _ M H Kp.refl hh a0w q⟩
 ·exact q.elim
noncomputable def b1c (i j : Int) : Prop := 0 < j ∧ j.natAbs.log2 < 9000
theorem b3T : OpR X (binaryOp .FloorDiv) (rI b1c fun i j => .int (i / j)) := opI fun i j _ _ _ _ _ hc q => by
 have e : i.fdiv j = i / j := Int.fdiv_eq_ediv_of_nonneg i (Int.le_of_lt hc.1)
 exact floordiv_int (Int.ne_of_gt hc.1) (by rw [e]; exact q) (.inl (PyProof.noPylong_of_log2 hc.2))
noncomputable def b7G : R3 := rInt b1c fun i j => i / j
noncomputable def b7F : R3 := rInt (fun _ j => 0 < j) fun i j => i % j
noncomputable def b7E : R3 := rInt CPow fun i j => i ^ j.toNat
theorem a3O : OpR3 X (binaryOp .FloorDiv) b7G := a8K b3T
theorem a2b : OpR3 X (binaryOp .Mod) b7F := a8K b8d
theorem b1S : OpR3 X (binaryOp .Pow) b7E := a8K b8b
noncomputable def b5G : T → MH → VK3 → Prop := fun x M Q => match x with
 | .int i => Q (.int (-i)) M
 | _ => False
theorem a1G : UnR3 X (unaryOp .USub) b5G := by
 intro pins s σ H x v Q2 I rx q
 obtain ⟨a, M, Q, r1, hh, q, en⟩ := q
 unfold b5G at q
 split at q
 ·obtain rfl := a0p r1
  exact b7a pins s σ H _ v Q2 I rx ⟨_, rfl, en _ _ M H Kp.refl hh a0w q⟩
 ·exact q.elim
theorem b3U : OpR X (binaryOp .Add) (fun x y H Q => ∃ a b ys, x = .ref a ∧ y = .ref b ∧ SqT X.K H a [] ∧ SqT X.K H b ys ∧ Q (.ref b) H) := by
 intro pins s σ H x y v u Q I rx ry h
 obtain ⟨a, b, ys, rfl, rfl, hx, hy, q⟩ := h
 cases rx
 cases ry
 obtain ⟨its, r, ht, hz⟩ := I.tuple hx
 obtain ⟨its2, r2, ht2, hz2⟩ := I.tuple hy
 have e : its = [] := r.nil_iff.mpr rfl
 subst e
 obtain ⟨⟨cls, dd, data, sl⟩, ho, hc, n, hd⟩ := id ht
 obtain ⟨⟨cls2, dd2, data2, sl2⟩, ho2, hc2, n2, hd2⟩ := id ht2
 simp only at hc hd hc2 hd2
 subst hc hd hc2 hd2
 exact concat_meets ⟨_, ho, rfl⟩ ⟨_, ho2, rfl⟩ noFill_tuple_add seq_tuple_add PySem.F.slot_tuple_add PySem.F.entry_tuple_add (PySem.F.args_tuple_add_2 _ _)
   (tuple_addW0 a b _ its2.toArray n n2 dd dd2 sl sl2 (by simp)) ⟨ho, ho2, ⟨.ref b, H, I, rfl, q⟩⟩
noncomputable def b5N : R3 := fun x y M Q => match x, y with
 | .int i, .int j => Q (.int (i + j)) M
 | .str a, .str b => a.length + b.length ≤ sizeLine ∧ Q (.str (a ++ b)) M
 | .tup a, .tup b => a.length + b.length ≤ sizeLine ∧ Q (.tup (a ++ b)) M
 | .adr p, .adr q => match M p, M q with
   | some (.lst a), some (.lst b) => a.length + b.length ≤ sizeLine ∧ ∀ r, M r = none → Q (.adr r) (updM M r (.lst (a ++ b)))
   | _, _ => False
 | _, _ => False
theorem a0T : OpR3 X (binaryOp .Add) b5N := by
 intro pins s σ H x y v u Q2 I rx ry q
 obtain ⟨a, b, M, Q, r1, r2, hh, q, en⟩ := q
 unfold b5N at q
 split at q
 ·obtain rfl := a0p r1
  obtain rfl := a0p r2
  exact b8f pins s σ H _ _ v u Q2 I rx ry ⟨_, _, rfl, rfl, en _ _ M H Kp.refl hh a0w q⟩
 ·obtain rfl := a2T r1
  obtain rfl := a2T r2
  exact b0D pins s σ H _ _ v u Q2 I rx ry ⟨_, _, rfl, rfl, q.1, en _ _ M H Kp.refl hh a8D q.2⟩
 ·rename_i ts us
  obtain ⟨p, xs, rfl, h1, h2⟩ := a0H r1
  obtain ⟨p', ys, rfl, g1, g2⟩ := a0H r2
  have l1 := h2.length
  have l2 := g2.length
  by_cases hx : xs = []
  ·subst hx
   have ht : ts = [] := List.eq_nil_of_length_eq_zero (by rw [← l1]; rfl)
   subst ht
   exact b3U pins s σ H _ _ v u Q2 I rx ry ⟨_, _, ys, rfl, rfl, h1, g1, en _ _ M H Kp.refl hh (a1f g1 g2) q.2⟩
  ·refine b1R pins s σ H _ _ v u Q2 I rx ry ⟨_, _, xs, ys, rfl, rfl, h1, g1, hx, by rw [l1, l2]; exact q.1, fun hy => ?_, fun hy r hr => ?_⟩
   ·subst hy
    have ht : us = [] := List.eq_nil_of_length_eq_zero (by rw [← l2]; rfl)
    subst ht
    have q2 := q.2
    rw [List.append_nil] at q2
    exact en _ _ M H Kp.refl hh (a1f h1 h2) q2
   ·refine en _ _ M _ (Kp.new hr) (hh.keep hr) (a1f (SqT.of a0s) ?_) q.2
    exact Reps.kp (Kp.new hr) _ _ (h2.append g2)
 ·rename_i p p'
  obtain rfl := a0v r1
  obtain rfl := a0v r2
  split at q
  ·rename_i ts us e1 e2
   obtain ⟨xs, h1, h2⟩ := hh _ _ e1
   obtain ⟨ys, g1, g2⟩ := hh _ _ e2
   refine b8e pins s σ H _ _ v u Q2 I rx ry ⟨_, _, xs, ys, rfl, rfl, h1, g1, by rw [h2.length, g2.length]; exact q.1, fun r hr => ?_⟩
   exact en _ _ _ _ (Kp.new hr) (hh.newL hr (h2.append g2)) a1g (q.2 r (hh.free hr))
  ·exact q.elim
 ·exact q.elim
end
theorem a4Q : fillsNumberSlot (.type "tuple") "mul" = pure false :=
 PySem.fillsNumberSlot_seq (id := "tuple.__mul__") (r := some (.builtin "tuple.__rmul__")) F.slot_tuple_mul.lookup (by decide +kernel) F.slot_tuple_rmul.lookup (by decide +kernel)
theorem a7x : seqRepeat? (.type "tuple") = pure (some (.builtin "tuple.__mul__")) := by
 unfold seqRepeat?
 rw [PySem.seqSlot_of (T := "tuple") (name := "__mul__") (id := "tuple.__mul__") F.slot_tuple_mul.lookup (by decide +kernel), PySem.seqSlot_of (T := "tuple") (name := "__rmul__") (id := "tuple.__rmul__") F.slot_tuple_rmul.lookup (by decide +kernel)]
 rfl
section
variable (l : Addr) (items : Array Value) (n : Nat) (x : Int) (u : Tok) (dd : Option Addr) (sl : Array (Option Value))
theorem a5N : Meets (Builtin.«int.__rmul__» ⟨[.int x u, .ref l], []⟩) (fun _ R s => s.heap.get? l = some { cls := .type "tuple", dict := dd, data := .seq items n, slots := sl } ∧ R (.ok (.ret Value.notImplemented)) s) :=
 .of_wp fun prog w A R s h => by obtain ⟨hp, g, d, tk, os⟩ := s; obtain ⟨hl, h⟩ := h; wp_walk; exact ⟨_, rfl, h⟩
theorem a8u (h0 : -(2 ^ 63) ≤ x) (h1 : x < 2 ^ 63) (hc : (items.isEmpty || x == 1) = true) :
  Meets (Builtin.«tuple.__mul__» ⟨[.ref l, .int x u], []⟩) (fun _ R s => s.heap.get? l = some { cls := .type "tuple", dict := dd, data := .seq items n, slots := sl } ∧ R (.ok (.ret (Value.ref l))) s) :=
 .of_wp fun prog w A R s h => by
  obtain ⟨hp, g, d, tk, os⟩ := s; obtain ⟨hl, h⟩ := h
  have hb : ¬ (decide (x < -2 ^ 63) || decide (x ≥ 2 ^ 63)) = true := by simp; lia
  wp_walk
  rw [if_neg hb]
  wp_walk
  first | exact ⟨_, rfl, h⟩ | (rw [if_pos hc]; wp_walk; exact ⟨_, rfl, h⟩)
theorem a8t (h0 : -(2 ^ 63) ≤ x) (h1 : x < 2 ^ 63) (hc : ¬ (items.isEmpty || x == 1) = true) (hn : (decide (x ≤ 0) || items.isEmpty) = true) :
  Meets (Builtin.«tuple.__mul__» ⟨[.ref l, .int x u], []⟩) (fun _ R s => s.heap.get? l = some { cls := .type "tuple", dict := dd, data := .seq items n, slots := sl } ∧ R (.ok (.ret (Value.ref s.heap.objs.size))) { s with heap := s.heap.push { cls := .type "tuple", data := .seq #[] }, toks := s.toks }) :=
 .of_wp fun prog w A R s h => by
  obtain ⟨hp, g, d, tk, os⟩ := s; obtain ⟨hl, h⟩ := h
  have hb : ¬ (decide (x < -2 ^ 63) || decide (x ≥ 2 ^ 63)) = true := by simp; lia
  wp_walk
  rw [if_neg hb]
  wp_walk
  first | exact ⟨_, rfl, h⟩ | (rw [if_neg hc, if_pos hn]; wp_walk; exact ⟨_, rfl, h⟩)
theorem a8s (h0 : -(2 ^ 63) ≤ x) (h1 : x < 2 ^ 63) (hc : ¬ (items.isEmpty || x == 1) = true) (hn : ¬ (decide (x ≤ 0) || items.isEmpty) = true) (hm : ¬ items.size * x > (2 ^ 63 - 1) / 8) (hz : ¬ Builtin.Tuple.tupleTooMany (items.size * x) = true) (hf : sizeOk (.seq (List.foldl (fun x1 x2 => x1 ++ x2) #[] (List.replicate x.toNat items)))) :
  Meets (Builtin.«tuple.__mul__» ⟨[.ref l, .int x u], []⟩) (fun _ R s => s.heap.get? l = some { cls := .type "tuple", dict := dd, data := .seq items n, slots := sl } ∧ R (.ok (.ret (Value.ref s.heap.objs.size))) { s with heap := s.heap.push { cls := .type "tuple", data := .seq (List.foldl (fun x1 x2 => x1 ++ x2) #[] (List.replicate x.toNat items)) }, toks := s.toks }) :=
 .of_wp fun prog w A R s h => by
  obtain ⟨hp, g, d, tk, os⟩ := s; obtain ⟨hl, h⟩ := h
  have hb : ¬ (decide (x < -2 ^ 63) || decide (x ≥ 2 ^ 63)) = true := by simp; lia
  wp_walk
  rw [if_neg hb]
  wp_walk
  rw [if_neg hm]
  wp_walk
  first | exact ⟨_, rfl, h⟩ | (rw [if_neg (Nat.not_lt.mpr hf)]; wp_walk; exact ⟨_, rfl, h⟩)
end
section
variable {X : Cx}
noncomputable def b9B (K : PySem.W.Frag) : R2 := fun x y H Q => ∃ a k xs, x = .ref a ∧ y = .int k ∧ SqT K H a xs ∧ -(2 ^ 63) ≤ k ∧ k < 2 ^ 63 ∧ xs.length * k.toNat ≤ sizeLine ∧
 ∀ p H', SqT K H' p (List.replicate k.toNat xs).flatten → (H' = H ∨ H p = none ∧ H' = upd H p (.tup (List.replicate k.toNat xs).flatten)) → Q (.ref p) H'
theorem a6i (its : List Value) (m : Nat) : List.foldl (fun x1 x2 => x1 ++ x2) #[] (List.replicate m its.toArray) = (List.replicate m its).flatten.toArray := by
 have := a5x its m []
 rw [List.nil_append] at this
 exact this
theorem b6h : OpR X (binaryOp .Mult) (b9B X.K) := by
 intro pins s σ H x y v u Q I rx ry h
 obtain ⟨a, k, xs, rfl, rfl, hx, h1, h2, hz, q⟩ := h
 cases rx
 obtain ⟨t, rfl⟩ := ry
 obtain ⟨its, r, p, hl⟩ := I.tuple hx
 have hlen := r.length
 obtain ⟨⟨cls, dd, data, sl⟩, ho, hc, n, hd⟩ := id p
 simp only at hc hd
 subst hc hd
 refine wpAny_binaryOp_repeat_ref (T := "tuple") (U := "int") (by decide) ⟨_, ho, rfl⟩ (fun s' => typeIs_int s' k t) a4Q F.fills_int_mul F.slot_int_rmul a7x F.slot_int_index.lookup
  (call_meets F.slot_int_rmul (typeIs_int s k t) F.entry_int_rmul (F.args_int_rmul_2 _ _) (a5N a its.toArray n k t dd sl) ⟨ho, rfl, ⟨_, ho, rfl⟩, ?_⟩)
 by_cases hc : (its.toArray.isEmpty || k == 1) = true
 ·refine call_meets F.slot_tuple_mul ⟨_, ho, rfl⟩ F.entry_tuple_mul (F.args_tuple_mul_2 _ _) (a8u a its.toArray n k t dd sl h1 h2 hc) ⟨ho, ?_⟩
  have e : (List.replicate k.toNat xs).flatten = xs := by
   simp only [Bool.or_eq_true, beq_iff_eq] at hc
   rcases hc with hc | hc
   ·have : its = [] := by simpa using hc
    subst this
    cases r
    simp
   ·subst hc
    simp
  exact ⟨.ref a, H, I, rfl, q a H (by rw [e]; exact hx) (.inl rfl)⟩
 ·by_cases hn : (decide (k ≤ 0) || its.toArray.isEmpty) = true
  ·refine call_meets F.slot_tuple_mul ⟨_, ho, rfl⟩ F.entry_tuple_mul (F.args_tuple_mul_2 _ _) (a8t a its.toArray n k t dd sl h1 h2 hc hn) ⟨ho, ?_⟩
   have hk : k.toNat = 0 := by
    simp only [Bool.or_eq_true, decide_eq_true_eq] at hn hc
    rcases hn with hn | hn
    ·lia
    ·exact absurd (.inl hn) hc
   have e : (List.replicate k.toNat xs).flatten = [] := by rw [hk]; rfl
   refine ⟨.ref s.heap.objs.size, _, I.laid (t' := s.toks) (o := .tup []) (fun b ob q => Heap.get?_push_of_some _ q) (Nat.le_refl _) ?_, rfl, q _ _ ?_ (.inr ⟨I.hok.fresh (Nat.le_refl _), by rw [e]⟩)⟩
   ·exact ⟨Nat.zero_le _, [], .nil, a2g.new _ _⟩
   ·rw [e]; exact SqT.of a0s
  ·have hm : (its.toArray.size : Int) * k ≤ sizeLine := by
    have : its.toArray.size = xs.length := by rw [hlen]; simp
    rw [this]
    have hk : (0 : Int) ≤ k := by
     simp only [Bool.or_eq_true, decide_eq_true_eq] at hn
     lia
    have e2 : k = ((k.toNat : Nat) : Int) := by lia
    rw [e2, ← Int.natCast_mul]
    exact_mod_cast hz
   have hz2 : ((List.replicate k.toNat its).flatten).length ≤ sizeLine := by rw [a8T, Nat.mul_comm, ← hlen]; exact hz
   refine call_meets F.slot_tuple_mul ⟨_, ho, rfl⟩ F.entry_tuple_mul (F.args_tuple_mul_2 _ _) (a8s a its.toArray n k t dd sl h1 h2 hc hn ?_ ?_ ?_) ⟨ho, ?_⟩
   ·have : (sizeLine : Int) ≤ (2 ^ 63 - 1) / 8 := by decide
    lia
   ·unfold Builtin.Tuple.tupleTooMany
    simp only [decide_eq_true_eq]
    lia
   ·rw [a6i]
    show (List.replicate k.toNat its).flatten.toArray.size ≤ sizeLine
    rw [List.size_toArray]
    exact hz2
   ·rw [a6i]
    refine ⟨.ref s.heap.objs.size, _, I.laid (t' := s.toks) (o := .tup (List.replicate k.toNat xs).flatten) (fun b ob q => Heap.get?_push_of_some _ q) (Nat.le_refl _) ?_, rfl, q _ _ (SqT.of a0s) (.inr ⟨I.hok.fresh (Nat.le_refl _), rfl⟩)⟩
    exact ⟨by rw [a8T, Nat.mul_comm]; exact hz, _, r.rep k.toNat, a2g.new _ _⟩
end
theorem Reps.atI {K : PySem.W.Frag} {H : Hp} {vs : List V} {ts : List T} {i : Int} {t : T} (h : Reps K H vs ts) (e : atI ts i = some t) : ∃ v, L2.atI vs i = some v ∧ Rep K H v t := by
 unfold L2.atI at e ⊢
 rw [h.length]
 cases q : ixN ts.length i with
 | none => rw [q] at e; cases e
 | some j => rw [q] at e; exact h.get e
section
variable {X : Cx} {a b c e : Expr} {es : List Expr} {ta tb tc te : TE3} {pos : Pos}
noncomputable def rIx3 : R3 := fun x y M Q => match x, y with
 | .tup ts, .int i => (match atI ts i with | some t => Q t M | none => False)
 | .rd ts, .int i => (match atI ts i with | some t => Q t M | none => False)
 | .adr p, .int i => (match M p with | some (.lst ts) => (match atI ts i with | some t => Q t M | none => False) | _ => False)
 | .str z, .int i => z.length ≤ sizeLine ∧ (match atI z.cps.toList i with | some c => Q (.str ⟨#[c]⟩) M | none => False)
 | _, _ => False
theorem a6f {K : PySem.W.Frag} {H : Hp} {v : V} {ts : List T} (r : Rep K H v (.rd ts)) : ∃ a xs, v = .ref a ∧ FzL K H a xs ∧ Reps K H xs ts := by unfold Rep at r; exact r
theorem ix3 : IxR3 X rIx3 := by
 intro value slice pins s σ H x y v u Q2 I rx ry q hs
 obtain ⟨a, b, M, Q, r1, r2, hh, q, en⟩ := q
 unfold rIx3 at q
 split at q
 ·obtain rfl := a0p r2
  obtain ⟨p, xs, rfl, h1, h2⟩ := a0H r1
  split at q
  ·rename_i t e
   obtain ⟨w, ew, rw'⟩ := h2.atI e
   exact b8x value slice pins s σ H _ _ v u Q2 I rx ry ⟨_, _, _, w, rfl, rfl, h1, ew, en _ _ M H Kp.refl hh rw' q⟩ hs
  ·exact q.elim
 ·obtain rfl := a0p r2
  obtain ⟨p, xs, rfl, h1, h2⟩ := a6f r1
  split at q
  ·rename_i t e
   obtain ⟨w, ew, rw'⟩ := h2.atI e
   exact b2p value slice pins s σ H _ _ v u Q2 I rx ry ⟨_, _, _, w, rfl, rfl, h1.sq, ew, en _ _ M H Kp.refl hh rw' q⟩ hs
  ·exact q.elim
 ·obtain rfl := a0p r2
  obtain rfl := a0v r1
  split at q
  ·rename_i ts e0
   obtain ⟨xs, h1, h2⟩ := hh _ _ e0
   split at q
   ·rename_i t e
    obtain ⟨w, ew, rw'⟩ := h2.atI e
    exact b2p value slice pins s σ H _ _ v u Q2 I rx ry ⟨_, _, _, w, rfl, rfl, SqL.of h1, ew, en _ _ M H Kp.refl hh rw' q⟩ hs
   ·exact q.elim
  ·exact q.elim
 ·obtain rfl := a0p r2
  obtain rfl := a2T r1
  obtain ⟨hz, q⟩ := q
  split at q
  ·rename_i c e
   exact b8y value slice pins s σ H _ _ v u Q2 I rx ry ⟨_, _, c, rfl, rfl, hz, e, en _ _ M H Kp.refl hh a8D q⟩ hs
  ·exact q.elim
 ·exact q.elim
theorem h_ix (ha : HE X a ta) (hb : HE X b tb) (hs : b3k b := by intro _ _; rfl) : HE X (.Subscript a b pos) (tOp3 rIx3 ta tb) := fun ρ M Q h =>
 (b9H ix3 (ha.d (ρ := ρ)) (hb.d (ρ := ρ)) hs).imp fun σ H Q2 b => dOp h b
noncomputable def b5H : R3 := fun x y M Q => match x, y with
 | .int i, .int j => CMul i j ∧ Q (.int (i * j)) M
 | .adr p, .int k => (match M p with
   | some (.lst ts) => -(2 ^ 63) ≤ k ∧ k < 2 ^ 63 ∧ ts.length * k.toNat ≤ sizeLine ∧ ∀ r, M r = none → Q (.adr r) (updM M r (.lst (List.replicate k.toNat ts).flatten))
   | _ => False)
 | .tup ts, .int k => -(2 ^ 63) ≤ k ∧ k < 2 ^ 63 ∧ ts.length * k.toNat ≤ sizeLine ∧ Q (.tup (List.replicate k.toNat ts).flatten) M
 | _, _ => False
theorem Reps.rep {K : PySem.W.Frag} {H : Hp} {vs : List V} {ts : List T} (h : Reps K H vs ts) : ∀ k : Nat, Reps K H (List.replicate k vs).flatten (List.replicate k ts).flatten
 | 0 => .nil
 | k + 1 => by
   rw [List.replicate_succ, List.replicate_succ, List.flatten_cons, List.flatten_cons]
   exact Reps.append h (Reps.rep h k)
theorem a0W : OpR3 X (binaryOp .Mult) b5H := by
 intro pins s σ H x y v u Q2 I rx ry q
 obtain ⟨a, b, M, Q, r1, r2, hh, q, en⟩ := q
 unfold b5H at q
 split at q
 ·obtain rfl := a0p r1
  obtain rfl := a0p r2
  exact b8c pins s σ H _ _ v u Q2 I rx ry ⟨_, _, rfl, rfl, q.1, en _ _ M H Kp.refl hh a0w q.2⟩
 ·obtain rfl := a0v r1
  obtain rfl := a0p r2
  split at q
  ·rename_i ts e0
   obtain ⟨xs, h1, h2⟩ := hh _ _ e0
   obtain ⟨q1, q2, q3, q4⟩ := q
   refine b8a pins s σ H _ _ v u Q2 I rx ry ⟨_, _, xs, rfl, rfl, h1, q1, q2, by rw [h2.length]; exact q3, fun r hr => ?_⟩
   exact en _ _ _ _ (Kp.new hr) (hh.newL hr (h2.rep _)) a1g (q4 r (hh.free hr))
  ·exact q.elim
 ·obtain ⟨l, xs, rfl, g1, g2⟩ := a0H r1
  obtain rfl := a0p r2
  obtain ⟨q1, q2, q3, q4⟩ := q
  refine b6h pins s σ H _ _ v u Q2 I rx ry ⟨_, _, xs, rfl, rfl, g1, q1, q2, by rw [g2.length]; exact q3, fun r H' h' c => ?_⟩
  rcases c with rfl | ⟨c1, rfl⟩
  ·exact en _ _ _ _ Kp.refl hh (a1f h' (g2.rep _)) q4
  ·exact en _ _ _ _ (Kp.new c1) (hh.keep c1) (a1f h' (Reps.kp (Kp.new c1) _ _ (g2.rep _))) q4
 ·exact q.elim
noncomputable def a8H (g : Int → Int → Bool) : R3 := fun x y M Q => match x, y with
 | .int i, .int j => Q (.bl (g i j)) M
 | _, _ => False
theorem a6L {f : Value → Value → Sem Value} {g : Int → Int → Bool} (h : OpR X f (rI0 fun i j => .bl (g i j))) : OpR3 X f (a8H g) := by
 intro pins s σ H x y v u Q2 I rx ry q
 obtain ⟨a, b, M, Q, r1, r2, hh, q, en⟩ := q
 unfold a8H at q
 split at q
 ·obtain rfl := a0p r1
  obtain rfl := a0p r2
  exact h pins s σ H _ _ v u Q2 I rx ry ⟨_, _, rfl, rfl, en _ _ M H Kp.refl hh a2Y q⟩
 ·exact q.elim
noncomputable def rLt3 : R3 := a8H fun i j => decide (i < j)
noncomputable def rLe3 : R3 := a8H fun i j => decide (i ≤ j)
noncomputable def rGt3 : R3 := a8H fun i j => decide (j < i)
noncomputable def rGe3 : R3 := a8H fun i j => decide (j ≤ i)
theorem b1T : OpR3 X (compareOp .Lt) rLt3 := a6L b9L
theorem a9F : OpR3 X (compareOp .LtE) rLe3 := a6L b9M
theorem a9G : OpR3 X (compareOp .Gt) rGt3 := a6L b9N
theorem b8g : OpR3 X (compareOp .GtE) rGe3 := a6L b9O
noncomputable def rEqv (g : Bool → Bool) : R3 := fun x y M Q => match x, y with
 | .adr p, .adr q => (match M p, M q with
   | some (.lst a), some (.lst b) => a1h a = true ∧ a1h b = true ∧ a3R a ≤ 30 ∧ Q (.bl (g (eqTs a b))) M
   | _, _ => False)
 | x, y => a0t x = true ∧ a0t y = true ∧ depT x ≤ 30 ∧ Q (.bl (g (eqT x y))) M
noncomputable def rEq3 : R3 := rEqv id
noncomputable def rNe3 : R3 := rEqv not
theorem a7M {pins : List (Addr × Obj)} {σ : St} {H : Hp} {s : Shared} (I : Inv X pins σ H s) (hu : X.A.units + 64 < cLine) {p p' : Addr} {xs ys : List V} {ts us : List T} (h1 : H p = some (.lst xs)) (h2 : Reps X.K H xs ts) (g1 : H p' = some (.lst ys)) (g2 : Reps X.K H ys us)
  (px : a1h ts = true) (py : a1h us = true) (hd : a3R ts ≤ 30) :
  SeqAt.RcAt X.A s (.ref p) (.ref p') (eqTs ts us) ∧ SeqAt.RcNeAt X.A s (.ref p) (.ref p') (!(eqTs ts us)) := by
 obtain ⟨its, r1, pl, _⟩ := I.list (SqL.of h1)
 obtain ⟨its2, r2, pl2, _⟩ := I.list (SqL.of g1)
 have l1 := h2.length
 have l2 := g2.length
 have m1 := r1.length
 have m2 := r2.length
 have hu' : X.A.units < cLine := by lia
 by_cases hl : its.length = its2.length
 ·have he := a9Q (X := X) (A := X.A.in1) (s := s) (n := 30) px py hd h2 g2 r1 r2 fun x y v u a b hx px py rx ry ra rb => (b2L I 30 X.A.in1 x y v u a b hx (by show X.A.units + 1 + 30 + 1 < cLine; lia) px py rx ry ra rb).1
  have hsz : its.toArray.size = its2.toArray.size := by simpa using hl
  have rc := SeqAt.RcAt.lists (A := X.A) pl.isList pl2.isList hsz hu' he
  have rn := SeqAt.RcNeAt.lists (A := X.A) pl.isList pl2.isList hsz hu' he
  have ee : (List.range its.toArray.size).all (eqJ ts us) = eqTs ts us := by
   rw [← a3w, List.size_toArray, ← l1, ← l2, m1, m2, ← hl]
   simp
  rw [ee] at rc rn
  exact ⟨rc, rn⟩
 ·have hne : eqTs ts us = false := by
   cases q : eqTs ts us with
   | false => rfl
   | true => have := a9X q; lia
  have hsz : (its.toArray.size != its2.toArray.size) = true := by simpa using hl
  rw [hne]
  exact ⟨SeqAt.RcAt.lists_lengths pl.isList pl2.isList hsz hu', SeqAt.RcNeAt.lists_lengths pl.isList pl2.isList hsz hu'⟩
theorem a6b (hu : X.A.units + 64 < cLine) : OpR3 X (compareOp .Eq) rEq3 := by
 intro pins s σ H x y v u Q2 I rx ry q
 obtain ⟨a, b, M, Q, r1, r2, hh, q, en⟩ := q
 unfold rEq3 rEqv at q
 split at q
 ·rename_i p p'
  split at q
  ·rename_i ts us e1 e2
   obtain ⟨xs, h1, h2⟩ := hh _ _ e1
   obtain ⟨ys, g1, g2⟩ := hh _ _ e2
   obtain rfl := a0v r1
   obtain rfl := a0v r2
   cases rx
   cases ry
   exact (a7M I hu h1 h2 g1 g2 q.1 q.2.1 q.2.2.1).1 _ _ _ _ ⟨.bl _, H, I, rfl, en _ _ M H Kp.refl hh a2Y q.2.2.2⟩
  ·exact q.elim
 ·obtain ⟨q1, q2, q3, q⟩ := q
  exact (b2L I 30 X.A a b x y v u q3 (by lia) q1 q2 r1 r2 rx ry).2.1 _ _ _ _ ⟨.bl _, H, I, rfl, en _ _ M H Kp.refl hh a2Y q⟩
theorem a9E (hu : X.A.units + 64 < cLine) : OpR3 X (compareOp .NotEq) rNe3 := by
 intro pins s σ H x y v u Q2 I rx ry q
 obtain ⟨a, b, M, Q, r1, r2, hh, q, en⟩ := q
 unfold rNe3 rEqv at q
 split at q
 ·rename_i p p'
  split at q
  ·rename_i ts us e1 e2
   obtain ⟨xs, h1, h2⟩ := hh _ _ e1
   obtain ⟨ys, g1, g2⟩ := hh _ _ e2
   obtain rfl := a0v r1
   obtain rfl := a0v r2
   cases rx
   cases ry
   exact (a7M I hu h1 h2 g1 g2 q.1 q.2.1 q.2.2.1).2 _ _ _ _ ⟨.bl _, H, I, rfl, en _ _ M H Kp.refl hh a2Y q.2.2.2⟩
  ·exact q.elim
 ·obtain ⟨q1, q2, q3, q⟩ := q
  exact (b2L I 30 X.A a b x y v u q3 (by lia) q1 q2 r1 r2 rx ry).2.2 _ _ _ _ ⟨.bl _, H, I, rfl, en _ _ M H Kp.refl hh a2Y q⟩
theorem b6A {op : CmpOp} {r : R3} (ho : OpR3 X (compareOp op) r) (ha : HE X a ta) (hb : HE X b tb) (hm : behindInMarks op b = false) : HE X (.Compare a [op] [b] pos) (tOp3 r ta tb) := fun ρ M Q h =>
 (b6b ho (ha.d (ρ := ρ)) (hb.d (ρ := ρ)) hm).imp fun σ H Q2 b => dOp h b
noncomputable def b1l (t : TE3) : TT3 := fun ρ M Q => t ρ M fun x M1 => match x with
 | .bl k => Q k M1
 | _ => False
theorem a9Z {K : PySem.W.Frag} {H : Hp} {Q : Bool → MH → Prop} {Q2 : Bool → Hp → Prop} (en : EndT K H Q Q2) : EndE K H (fun x M1 => match x with | .bl k => Q k M1 | _ => False) (fun x H' => ∃ k, x = .bl k ∧ Q2 k H') := by
 intro t v M' H' k h r q
 split at q
 ·obtain rfl := a4n r
  exact ⟨_, rfl, en _ M' H' k h q⟩
 ·exact q.elim
theorem a1D {op : CmpOp} {r : R3} (ho : OpR3 X (compareOp op) r) (ha : HE X a ta) (hb : HE X b tb) (hm : behindInMarks op b = false) : HT X (.Compare a [op] [b] pos) (b1l (tOp3 r ta tb)) := fun ρ M Q h =>
 (b5S ho (ha.d (ρ := ρ)) (hb.d (ρ := ρ)) hm).imp fun σ H Q2 ⟨hr, hh, en⟩ => dOp (ta := ta) (tb := tb) (r := r) h ⟨hr, hh, a9Z en⟩
noncomputable def a6t (r r' : R3) (ta tb tc : TE3) : TE3 := fun ρ M Q => ta ρ M fun x M1 => tb ρ M1 fun y M2 => r x y M2 fun z M3 => match z with
 | .bl k => (if k = true then tc ρ M3 fun w M4 => r' y w M4 Q else Q (.bl false) M3)
 | _ => False
theorem b4W {ρ : En} {M : MH} {Q : VK3} {r r' : R3} (h : a6t r r' ta tb tc ρ M Q) {σ : St} {H : Hp} {Q2 : VK} (b : bE X.K ρ M Q σ H Q2) : b1o (dR X.K r) (dR X.K r') (dE X.K ρ ta) (dE X.K ρ tb) (dE X.K ρ tc) σ H Q2 := by
 obtain ⟨hr, hh, en⟩ := b
 refine ⟨M, _, h, hr, hh, fun t v M1 H1 k1 h1 r1 q1 => ⟨M1, _, q1, hr.kp k1, h1, fun t2 v2 M2 H2 k2 h2 r2 q2 => ⟨t, t2, M2, _, Rep.kp k2 _ _ r1, r2, h2, q2, fun z v3 M3 H3 k3 h3 r3 q3 => ?_⟩⟩⟩
 split at q3
 ·rename_i k
  obtain rfl := a4n r3
  refine ⟨k, rfl, ?_⟩
  have kk := k1.trans (k2.trans k3)
  split
  ·rename_i hk
   rw [if_pos hk] at q3
   exact ⟨M3, _, q3, hr.kp kk, h3, fun t4 v4 M4 H4 k4 h4 r4 q4 => ⟨t2, t4, M4, Q, Rep.kp (k3.trans k4) _ _ r2, r4, h4, q4, en.kp (kk.trans k4)⟩⟩
  ·rename_i hk
   rw [if_neg hk] at q3
   exact en _ _ M3 H3 kk h3 a2Y q3
 ·exact q3.elim
theorem b6B {op op' : CmpOp} {r r' : R3} (ho : OpR3 X (compareOp op) r) (ho' : OpR3 X (compareOp op') r') (ha : HE X a ta) (hb : HE X b tb) (hc : HE X c tc)
  (hm : lastMarks [op, op'] [b, c] = false := by with_unfolding_all rfl) : HE X (.Compare a [op, op'] [b, c] pos) (a6t r r' ta tb tc) := fun ρ M Q h =>
 (b3P ho ho' (ha.d (ρ := ρ)) (hb.d (ρ := ρ)) (hc.d (ρ := ρ)) hm).imp fun σ H Q2 b => b4W h b
theorem b4i {op op' : CmpOp} {r r' : R3} (ho : OpR3 X (compareOp op) r) (ho' : OpR3 X (compareOp op') r') (ha : HE X a ta) (hb : HE X b tb) (hc : HE X c tc)
  (hm : lastMarks [op, op'] [b, c] = false := by with_unfolding_all rfl) : HT X (.Compare a [op, op'] [b, c] pos) (b1l (a6t r r' ta tb tc)) := fun ρ M Q h =>
 (b3H ho ho' (ha.d (ρ := ρ)) (hb.d (ρ := ρ)) (hc.d (ρ := ρ)) hm).imp fun σ H Q2 ⟨hr, hh, en⟩ => b4W (ta := ta) (tb := tb) (tc := tc) (r := r) (r' := r') h ⟨hr, hh, a9Z en⟩
noncomputable def truT (M : MH) : T → Option Bool
 | .non => some false
 | .bl b => some b
 | .int i => some (i != 0)
 | .str y => if y.length ≤ sizeLine then some (decide (y.length ≠ 0)) else none
 | .tup ts => some (!ts.isEmpty)
 | .rd ts => some (!ts.isEmpty)
 | .dic _ _ => none
 | .adr p => match M p with
   | some (.lst ts) => some (!ts.isEmpty)
   | _ => none
noncomputable def b7e (te : TE3) : TT3 := fun ρ M Q => te ρ M fun x M1 => match truT M1 x with
 | some k => Q k M1
 | none => False
theorem a7c {K : PySem.W.Frag} {H : Hp} {xs : List V} {ts : List T} (h : Reps K H xs ts) : (!xs.isEmpty) = !ts.isEmpty := by
 have := h.length
 cases xs <;> cases ts <;> first | rfl | (simp at this)
theorem a4z (ha : HE X a ta) (he : ∀ whole, isTrue a X.env whole = (do let v ← whole; standAt a.pos; holding [v] (truthy v)) := by intro _; rfl) : HT X a (b7e ta) := fun ρ M Q h =>
 (b3G (ha.d (ρ := ρ)) he).imp fun σ H Q2 ⟨hr, hh, en⟩ => ⟨M, _, h, hr, hh, fun t v M1 H1 k1 h1 r1 q1 => by
  have fin : ∀ k, truT M1 t = some k → Q2 k H1 := fun k e => by
   have q : (match truT M1 t with | some k => Q k M1 | none => False) := q1
   rw [e] at q
   exact en k M1 H1 k1 h1 q
  cases t with
  | non => obtain rfl := b2v r1; exact ⟨false, rfl, fin _ rfl⟩
  | bl b => obtain rfl := a4n r1; exact ⟨b, rfl, fin _ rfl⟩
  | int i => obtain rfl := a0p r1; exact ⟨_, rfl, fin _ rfl⟩
  | str y =>
    obtain rfl := a2T r1
    by_cases hy : y.length ≤ sizeLine
    ·refine ⟨_, ⟨hy, rfl⟩, fin _ ?_⟩
     show (if y.length ≤ sizeLine then some (decide (y.length ≠ 0)) else none) = _
     rw [if_pos hy]
     congr 1
     by_cases h0 : y.length = 0
     ·rw [h0]; rfl
     ·have : ((y.length : Int) != 0) = true := by simpa using h0
      rw [this]; simpa using h0
    ·have q : (match truT M1 (.str y) with | some k => Q k M1 | none => False) := q1
     have e : truT M1 (.str y) = none := if_neg hy
     rw [e] at q
     exact q.elim
  | tup ts =>
    obtain ⟨p, xs, rfl, g1, g2⟩ := a0H r1
    exact ⟨!xs.isEmpty, .inr (.inl ⟨xs, g1, rfl⟩), fin _ (by rw [a7c g2]; rfl)⟩
  | rd ts =>
    obtain ⟨p, xs, rfl, g1, g2⟩ := a6f r1
    exact ⟨!xs.isEmpty, .inl ⟨xs, g1.sq, rfl⟩, fin _ (by rw [a7c g2]; rfl)⟩
  | dic ks ts =>
    have q : (match truT M1 (.dic ks ts) with | some k => Q k M1 | none => False) := q1
    exact q.elim
  | adr p =>
    obtain rfl := a0v r1
    cases e0 : M1 p with
    | none =>
      have q : (match truT M1 (.adr p) with | some k => Q k M1 | none => False) := q1
      have e : truT M1 (.adr p) = none := by show (match M1 p with | some (.lst ts) => some (!ts.isEmpty) | _ => none) = none; rw [e0]
      rw [e] at q
      exact q.elim
    | some o =>
      cases o with
      | lst ts =>
        obtain ⟨xs, g1, g2⟩ := h1 _ _ e0
        exact ⟨!xs.isEmpty, .inl ⟨xs, SqL.of g1, rfl⟩, fin _ (by show (match M1 p with | some (.lst ts) => some (!ts.isEmpty) | _ => none) = _; rw [e0, a7c g2])⟩
      | dk kvs =>
        have q : (match truT M1 (.adr p) with | some k => Q k M1 | none => False) := q1
        have e : truT M1 (.adr p) = none := by show (match M1 p with | some (.lst ts) => some (!ts.isEmpty) | _ => none) = none; rw [e0]
        rw [e] at q
        exact q.elim
      | dt kvs =>
        have q : (match truT M1 (.adr p) with | some k => Q k M1 | none => False) := q1
        have e : truT M1 (.adr p) = none := by show (match M1 p with | some (.lst ts) => some (!ts.isEmpty) | _ => none) = none; rw [e0]
        rw [e] at q
        exact q.elim
      | fz kvs =>
        have q : (match truT M1 (.adr p) with | some k => Q k M1 | none => False) := q1
        have e : truT M1 (.adr p) = none := by show (match M1 p with | some (.lst ts) => some (!ts.isEmpty) | _ => none) = none; rw [e0]
        rw [e] at q
        exact q.elim
      | fk kvs =>
        have q : (match truT M1 (.adr p) with | some k => Q k M1 | none => False) := q1
        have e : truT M1 (.adr p) = none := by show (match M1 p with | some (.lst ts) => some (!ts.isEmpty) | _ => none) = none; rw [e0]
        rw [e] at q
        exact q.elim
      | ob C fs =>
        have q : (match truT M1 (.adr p) with | some k => Q k M1 | none => False) := q1
        have e : truT M1 (.adr p) = none := by show (match M1 p with | some (.lst ts) => some (!ts.isEmpty) | _ => none) = none; rw [e0]
        rw [e] at q
        exact q.elim⟩
end
section
variable {X : Cx} {a b c e : Expr} {es rest : List Expr} {ta tb tc te : TE3} {tA tB : TT3} {t : TA3} {pos : Pos}
noncomputable def HW (X : Cx) (e : Expr) (t : TT3) : Prop := ∀ ρ M Q, t ρ M Q → PW X e (bT X.K ρ M Q)
theorem HW.d {t : TT3} {ρ : En} (h : HW X e t) : PW X e (dT X.K ρ t) := fun wh pins s σ H Q I ⟨M, Q3, q, b⟩ => h ρ M Q3 q wh pins s σ H Q I b
theorem PW.imp {t t' : TT} (h : PW X e t) (f : ∀ σ H Q, t' σ H Q → t σ H Q) : PW X e t' := fun wh pins s σ H Q I q => h wh pins s σ H Q I (f σ H Q q)
theorem HW.ht {t : TT3} (h : HW X e t) : HT X e t := fun ρ M Q q => (h ρ M Q q).pt
noncomputable def b7s (t u : TT3) : TT3 := fun ρ M Q => t ρ M fun c M1 => if c = true then u ρ M1 Q else Q false M1
noncomputable def tOr3 (t u : TT3) : TT3 := fun ρ M Q => t ρ M fun c M1 => if c = true then Q true M1 else u ρ M1 Q
noncomputable def b7i (t : TT3) : TT3 := fun ρ M Q => t ρ M fun c M1 => Q (!c) M1
theorem b0P (ha : HT X a tA) : HT X (.UnaryOp .Not a pos) (b7i tA) := fun ρ M Q h =>
 (b7J (ha.d (ρ := ρ))).imp fun σ H Q2 ⟨hr, hh, en⟩ => ⟨M, _, h, hr, hh, fun b M1 H1 k1 h1 q1 => en _ M1 H1 k1 h1 q1⟩
theorem b4w (ha : HT X a tA) : HW X (.BoolOp .And [a] pos) tA := fun ρ M Q h => (b5P (ha.d (ρ := ρ))).imp fun σ H Q2 b => ⟨M, Q, h, b⟩
theorem b5k (ha : HT X a tA) : HW X (.BoolOp .Or [a] pos) tA := fun ρ M Q h => (b7H (ha.d (ρ := ρ))).imp fun σ H Q2 b => ⟨M, Q, h, b⟩
theorem b6Y (ha : HT X a tA) (hb : HW X (.BoolOp .And (b :: rest) pos) tB) : HW X (.BoolOp .And (a :: b :: rest) pos) (b7s tA tB) := fun ρ M Q h =>
 (b7I (ha.d (ρ := ρ)) (hb.d (ρ := ρ))).imp fun σ H Q2 ⟨hr, hh, en⟩ => ⟨M, _, h, hr, hh, fun b M1 H1 k1 h1 q1 => by
  dsimp only at q1 ⊢
  split
  ·rename_i hb; rw [if_pos hb] at q1
   exact ⟨M1, Q, q1, hr.kp k1, h1, fun b' M2 H2 k2 => en b' M2 H2 (k1.trans k2)⟩
  ·rename_i hb; rw [if_neg hb] at q1
   exact en _ M1 H1 k1 h1 q1⟩
theorem w_or (ha : HT X a tA) (hb : HW X (.BoolOp .Or (b :: rest) pos) tB) : HW X (.BoolOp .Or (a :: b :: rest) pos) (tOr3 tA tB) := fun ρ M Q h =>
 (b9D (ha.d (ρ := ρ)) (hb.d (ρ := ρ))).imp fun σ H Q2 ⟨hr, hh, en⟩ => ⟨M, _, h, hr, hh, fun b M1 H1 k1 h1 q1 => by
  dsimp only at q1 ⊢
  split
  ·rename_i hb; rw [if_pos hb] at q1
   exact en _ M1 H1 k1 h1 q1
  ·rename_i hb; rw [if_neg hb] at q1
   exact ⟨M1, Q, q1, hr.kp k1, h1, fun b' M2 H2 k2 => en b' M2 H2 (k1.trans k2)⟩⟩
noncomputable def b4I (ta tb : TE3) : TE3 := fun ρ M Q => ta ρ M fun x M1 => match x with
 | .bl c => (if c = true then tb ρ M1 Q else Q (.bl false) M1)
 | _ => False
noncomputable def b4D (ta : TE3) : TE3 := fun ρ M Q => ta ρ M fun x M1 => match x with
 | .bl c => Q (.bl (!c)) M1
 | _ => False
theorem b9W {op} (ha : HE X a ta) : HE X (.BoolOp op [a] pos) ta := fun ρ M Q h => b7S (ha ρ M Q h)
theorem b9Y (ha : HE X a ta) (hb : HE X (.BoolOp .And (b :: rest) pos) tb) : HE X (.BoolOp .And (a :: b :: rest) pos) (b4I ta tb) := fun ρ M Q h =>
 (b7W (ha.d (ρ := ρ)) (hb.d (ρ := ρ))).imp fun σ H Q2 ⟨hr, hh, en⟩ => ⟨M, _, h, hr, hh, fun x v M1 H1 k1 h1 r1 q1 => by
  dsimp only at q1 ⊢
  split at q1
  ·rename_i c
   obtain rfl := a4n r1
   refine ⟨c, rfl, ?_⟩
   split
   ·rename_i hc; rw [if_pos hc] at q1
    exact ⟨M1, Q, q1, hr.kp k1, h1, en.kp k1⟩
   ·rename_i hc; rw [if_neg hc] at q1
    exact en _ _ M1 H1 k1 h1 a2Y q1
  ·exact q1.elim⟩
theorem b8C (ha : HE X a ta) : HE X (.UnaryOp .Not a pos) (b4D ta) := fun ρ M Q h =>
 (b7T (ha.d (ρ := ρ))).imp fun σ H Q2 ⟨hr, hh, en⟩ => ⟨M, _, h, hr, hh, fun x v M1 H1 k1 h1 r1 q1 => by
  dsimp only at q1 ⊢
  split at q1
  ·rename_i c
   obtain rfl := a4n r1
   exact ⟨c, rfl, en _ _ M1 H1 k1 h1 a2Y q1⟩
  ·exact q1.elim⟩
noncomputable def tIf3 (t : TT3) (ta tb : TE3) : TE3 := fun ρ M Q => t ρ M fun c M1 => if c = true then ta ρ M1 Q else tb ρ M1 Q
theorem b9X (hc : HT X c tA) (ha : HE X a ta) (hb : HE X b tb) : HE X (.IfExp c a b pos) (tIf3 tA ta tb) := fun ρ M Q h =>
 (b3M (hc.d (ρ := ρ)) (ha.d (ρ := ρ)) (hb.d (ρ := ρ))).imp fun σ H Q2 ⟨hr, hh, en⟩ => ⟨M, _, h, hr, hh, fun b M1 H1 k1 h1 q1 => by
  dsimp only at q1 ⊢
  split
  ·rename_i hb; rw [if_pos hb] at q1
   exact ⟨M1, Q, q1, hr.kp k1, h1, en.kp k1⟩
  ·rename_i hb; rw [if_neg hb] at q1
   exact ⟨M1, Q, q1, hr.kp k1, h1, en.kp k1⟩⟩
noncomputable def b7j : TA3 := fun _ M Q => Q [] M
noncomputable def b1m (ta : TE3) (tr : TA3) : TA3 := fun ρ M Q => ta ρ M fun x M1 => tr ρ M1 fun xs M2 => Q (x :: xs) M2
theorem a0e : HA X [] b7j := fun ρ M Q h => b1P.imp fun σ H Q2 ⟨hr, hh, en⟩ => en [] [] M H Kp.refl hh .nil h
theorem a0a (ha : HE X a ta) (hr : HA X es t) (hs : starEach (a :: es) X.env = (false, eval a X.env) :: starEach es X.env := by rfl) : HA X (a :: es) (b1m ta t) := fun ρ M Q h =>
 (a6J (ha.d (ρ := ρ)) (hr.d (ρ := ρ)) hs).imp fun σ H Q2 ⟨hr, hh, en⟩ => ⟨M, _, h, hr, hh, fun x v M1 H1 k1 h1 r1 q1 => ⟨M1, _, q1, hr.kp k1, h1, fun ts vs M2 H2 k2 h2 r2 q2 =>
  en _ _ M2 H2 (k1.trans k2) h2 (.cons (Rep.kp k2 _ _ r1) r2) q2⟩⟩
noncomputable def b7d (t : TA3) : TE3 := fun ρ M Q => t ρ M fun xs M1 => xs.length ≤ sizeLine ∧ Q (.tup xs) M1
noncomputable def b7k (t : TA3) : TE3 := fun ρ M Q => t ρ M fun xs M1 => xs.length ≤ sizeLine ∧ ∀ p, M1 p = none → Q (.adr p) (updM M1 p (.lst xs))
theorem a4S {x1} (h : HA X es t) : HE X (.Tuple es x1 pos) (b7d t) := fun ρ M Q q =>
 (b7R (h.d (ρ := ρ))).imp fun σ H Q2 ⟨hr, hh, en⟩ => ⟨M, _, q, hr, hh, fun ts vs M1 H1 k1 h1 r1 q1 =>
  ⟨by rw [r1.length]; exact q1.1, fun p hp => en _ _ M1 _ (k1.trans (Kp.new hp)) (h1.keep hp) (a1f (SqT.of a0s) (Reps.kp (Kp.new hp) _ _ r1)) q1.2⟩⟩
theorem a7V (h : HA X es t) : HE X (.List es pos) (b7k t) := fun ρ M Q q =>
 (b7U (h.d (ρ := ρ))).imp fun σ H Q2 ⟨hr, hh, en⟩ => ⟨M, _, q, hr, hh, fun ts vs M1 H1 k1 h1 r1 q1 =>
  ⟨by rw [r1.length]; exact q1.1, fun p hp => en _ _ _ _ (k1.trans (Kp.new hp)) (h1.newL hp r1) a1g (q1.2 p (h1.free hp))⟩⟩
noncomputable abbrev Sp3 := List T → MH → VK3 → Prop
noncomputable def dSp (K : PySem.W.Frag) (sp : Sp3) : Sp := fun vs H Q2 _ => ∃ ts M Q, Reps K H vs ts ∧ HR K H M ∧ sp ts M Q ∧ EndE K H Q Q2
structure Df (P : Program) (w : World) (K : PySem.W.Frag) (mg : Str → Option Value) (base : Heap) (n : Nat) (x : Str) (ps : List Str) (sp : Sp3) : Prop where
 out : ∃ f fd, FnOk P w K mg base CX0 n f fd ps (dSp K sp) ∧ mg x = some (.ref f) ∧ PySem.W.keepIn K (.ref f) = true ∧ a0V K fd ps []
theorem Df.mono {P : Program} {w : World} {K : PySem.W.Frag} {mg : Str → Option Value} {base : Heap} {n m : Nat} {x : Str} {ps : List Str} {sp : Sp3} (D : Df P w K mg base n x ps sp) (h : n ≤ m) : Df P w K mg base m x ps sp := by
 obtain ⟨f, fd, F, a, b, c⟩ := D.out
 exact ⟨f, fd, F.mono h, a, b, c⟩
noncomputable def b4H (sp : Sp3) (t : TA3) : TE3 := fun ρ M Q => t ρ M fun ts M1 => sp ts M1 Q
theorem a0m {n : Nat} {x : Str} {ps : List Str} {sp : Sp3} {p : Pos} (D : Df X.prog X.w X.K X.mg X.base n x ps sp) (hr : Room n X.A) (ha : HA X (e :: es) t) (hg : Gl X x := by rfl) (hdb : (x == ("__debug__" : Str)) = false := by decide)
  (he : starEach (e :: es) X.env = (false, eval e X.env) :: starEach es X.env := by rfl) (hpl : (backTo pos (starEach es X.env)).any (·.1) = false := by rfl) :
  HE X (.Call (.Name x p) (e :: es) [] pos) (b4H sp t) := fun ρ M Q h => by
 obtain ⟨f, fd, F, hm, hk, hb⟩ := D.out
 exact (b6c F hr hg hm hk hb .nil b9K (ha.d (ρ := ρ)) hdb he hpl).imp fun σ H Q2 ⟨hr, hh, en⟩ => ⟨M, _, h, hr, hh, fun ts vs M1 H1 k1 h1 r1 q1 =>
  ⟨ts, M1, Q, by rw [List.append_nil]; exact r1, h1, q1, en.kp k1⟩⟩
noncomputable def tCB3 (r : List T → MH → VK3 → Prop) (t : TA3) : TE3 := fun ρ M Q => t ρ M fun ts M1 => r ts M1 Q
theorem a0I {x : Str} {id : String} {r : List T → MH → VK3 → Prop} {p : Pos} (hc : a2E X (.builtin id) r) (hm : X.mg x = none) (hv : bootBuiltins x = some (.builtin id)) (ha : HA X (e :: es) t) (hg : Gl X x := by rfl) (hn : x ≠ "__name__" := by decide) (hdb : (x == ("__debug__" : Str)) = false := by decide)
  (he : starEach (e :: es) X.env = (false, eval e X.env) :: starEach es X.env := by rfl) (hpl : (backTo pos (starEach es X.env)).any (·.1) = false := by rfl) : HE X (.Call (.Name x p) (e :: es) [] pos) (tCB3 r t) := fun ρ M Q h =>
 (b3Q hc hg hm hv (ha.d (ρ := ρ)) hn hdb he hpl).imp fun σ H Q2 ⟨hr, hh, en⟩ => ⟨M, _, h, hr, hh, fun ts vs M1 H1 k1 h1 r1 q1 => ⟨ts, M1, Q, r1, h1, q1, en.kp k1⟩⟩
theorem a2u {x : Str} {ty : String} {r : List T → MH → VK3 → Prop} {p : Pos} (hc : a2E X (.type ty) r) (hm : X.mg x = none) (hv : bootBuiltins x = some (.type ty)) (ha : HA X (e :: es) t) (hg : Gl X x := by rfl) (hn : x ≠ "__name__" := by decide) (hdb : (x == ("__debug__" : Str)) = false := by decide)
  (he : starEach (e :: es) X.env = (false, eval e X.env) :: starEach es X.env := by rfl) (hpl : (backTo pos (starEach es X.env)).any (·.1) = false := by rfl) : HE X (.Call (.Name x p) (e :: es) [] pos) (tCB3 r t) := fun ρ M Q h =>
 (b1O hc hg hm hv (ha.d (ρ := ρ)) hn hdb he hpl).imp fun σ H Q2 ⟨hr, hh, en⟩ => ⟨M, _, h, hr, hh, fun ts vs M1 H1 k1 h1 r1 q1 => ⟨ts, M1, Q, r1, h1, q1, en.kp k1⟩⟩
end
section
variable {X : Cx}
theorem a1s {K : PySem.W.Frag} {H : Hp} {vs : List V} {x : T} (r : Reps K H vs [x]) : ∃ v, vs = [v] ∧ Rep K H v x := by
 unfold Reps at r
 obtain ⟨v, w, rfl, h, r⟩ := r
 unfold Reps at r
 subst r
 exact ⟨v, rfl, h⟩
theorem b5z {K : PySem.W.Frag} {H : Hp} {vs : List V} {x y : T} (r : Reps K H vs [x, y]) : ∃ v w, vs = [v, w] ∧ Rep K H v x ∧ Rep K H w y := by
 unfold Reps at r
 obtain ⟨v, r', rfl, h, r⟩ := r
 obtain ⟨w, rfl, h'⟩ := a1s r
 exact ⟨v, w, rfl, h, h'⟩
noncomputable def b5I : List T → MH → VK3 → Prop := fun xs M Q => match xs with
 | [.tup ts] => Q (.int ts.length) M
 | [.rd ts] => Q (.int ts.length) M
 | [.adr p] => (match M p with | some (.lst ts) => Q (.int ts.length) M | _ => False)
 | [.str z] => z.length ≤ sizeLine ∧ Q (.int z.length) M
 | _ => False
theorem a0Q : a2E X (.builtin "len") b5I := by
 intro pins s σ H vs us Q2 I r h
 obtain ⟨xs, M, Q, rr, hh, q, en⟩ := h
 unfold b5I at q
 split at q
 ·obtain ⟨v, rfl, r1⟩ := a1s rr
  obtain ⟨p, ys, rfl, g1, g2⟩ := a0H r1
  exact a3j pins s σ H _ us Q2 I r ⟨p, ys, rfl, .inr g1, by rw [g2.length]; exact en _ _ M H Kp.refl hh a0w q⟩
 ·obtain ⟨v, rfl, r1⟩ := a1s rr
  obtain ⟨p, ys, rfl, g1, g2⟩ := a6f r1
  exact a3j pins s σ H _ us Q2 I r ⟨p, ys, rfl, .inl g1.sq, by rw [g2.length]; exact en _ _ M H Kp.refl hh a0w q⟩
 ·obtain ⟨v, rfl, r1⟩ := a1s rr
  obtain rfl := a0v r1
  split at q
  ·rename_i ts e0
   obtain ⟨ys, g1, g2⟩ := hh _ _ e0
   exact a3j pins s σ H _ us Q2 I r ⟨_, ys, rfl, .inl (SqL.of g1), by rw [g2.length]; exact en _ _ M H Kp.refl hh a0w q⟩
  ·exact q.elim
 ·obtain ⟨v, rfl, r1⟩ := a1s rr
  obtain rfl := a2T r1
  exact a8g pins s σ H _ us Q2 I r ⟨_, rfl, q.1, en _ _ M H Kp.refl hh a0w q.2⟩
 ·exact q.elim
noncomputable def b5O : List T → MH → VK3 → Prop := fun xs M Q => match xs with
 | [.int i] => Q (.int i.natAbs) M
 | _ => False
theorem a4r : a2E X (.builtin "abs") b5O := by
 intro pins s σ H vs us Q2 I r h
 obtain ⟨xs, M, Q, rr, hh, q, en⟩ := h
 unfold b5O at q
 split at q
 ·rename_i i
  obtain ⟨v, rfl, r1⟩ := a1s rr
  obtain rfl := a0p r1
  refine b4t pins s σ H _ us Q2 I r ⟨_, rfl, en _ _ M H Kp.refl hh ?_ q⟩
  have e : (if i < 0 then -i else i) = (i.natAbs : Int) := by split <;> lia
  rw [e]; exact a0w
 ·exact q.elim
noncomputable def a8F : List T → MH → VK3 → Prop := fun xs M Q => match xs with
 | [.tup ts] => Q (.tup ts) M
 | [.rd ts] => Q (.tup ts) M
 | [.adr p] => (match M p with | some (.lst ts) => Q (.tup ts) M | _ => False)
 | _ => False
theorem a1v : a2E X (.type "tuple") a8F := by
 intro pins s σ H vs us Q2 I r h
 obtain ⟨xs, M, Q, rr, hh, q, en⟩ := h
 unfold a8F at q
 split at q
 ·obtain ⟨v, rfl, r1⟩ := a1s rr
  obtain ⟨p, ys, rfl, g1, g2⟩ := a0H r1
  exact a1U pins s σ H _ us Q2 I r ⟨p, ys, rfl, .inr ⟨g1, en _ _ M H Kp.refl hh r1 q⟩⟩
 ·obtain ⟨v, rfl, r1⟩ := a1s rr
  obtain ⟨p, ys, rfl, g1, g2⟩ := a6f r1
  exact a1U pins s σ H _ us Q2 I r ⟨p, ys, rfl, .inl ⟨g1.sq, fun l hl => en _ _ M _ (Kp.new hl) (hh.keep hl) (a1f (SqT.of a0s) (Reps.kp (Kp.new hl) _ _ g2)) q⟩⟩
 ·obtain ⟨v, rfl, r1⟩ := a1s rr
  obtain rfl := a0v r1
  split at q
  ·rename_i ts e0
   obtain ⟨ys, g1, g2⟩ := hh _ _ e0
   exact a1U pins s σ H _ us Q2 I r ⟨_, ys, rfl, .inl ⟨SqL.of g1, fun l hl => en _ _ M _ (Kp.new hl) (hh.keep hl) (a1f (SqT.of a0s) (Reps.kp (Kp.new hl) _ _ g2)) q⟩⟩
  ·exact q.elim
 ·exact q.elim
noncomputable def b1G : List T → MH → VK3 → Prop := fun xs M Q => match xs with
 | [.tup ts] => ∀ r, M r = none → Q (.adr r) (updM M r (.lst ts))
 | [.rd ts] => ∀ r, M r = none → Q (.adr r) (updM M r (.lst ts))
 | [.adr p] => (match M p with | some (.lst ts) => ∀ r, M r = none → Q (.adr r) (updM M r (.lst ts)) | _ => False)
 | _ => False
theorem b0Z : a2E X (.type "list") b1G := by
 intro pins s σ H vs us Q2 I r h
 obtain ⟨xs, M, Q, rr, hh, q, en⟩ := h
 unfold b1G at q
 split at q
 ·obtain ⟨v, rfl, r1⟩ := a1s rr
  obtain ⟨p, ys, rfl, g1, g2⟩ := a0H r1
  exact a3i pins s σ H _ us Q2 I r ⟨p, ys, rfl, .inr g1, fun l hl => en _ _ _ _ (Kp.new hl) (hh.newL hl g2) a1g (q l (hh.free hl))⟩
 ·obtain ⟨v, rfl, r1⟩ := a1s rr
  obtain ⟨p, ys, rfl, g1, g2⟩ := a6f r1
  exact a3i pins s σ H _ us Q2 I r ⟨p, ys, rfl, .inl g1.sq, fun l hl => en _ _ _ _ (Kp.new hl) (hh.newL hl g2) a1g (q l (hh.free hl))⟩
 ·obtain ⟨v, rfl, r1⟩ := a1s rr
  obtain rfl := a0v r1
  split at q
  ·rename_i ts e0
   obtain ⟨ys, g1, g2⟩ := hh _ _ e0
   exact a3i pins s σ H _ us Q2 I r ⟨_, ys, rfl, .inl (SqL.of g1), fun l hl => en _ _ _ _ (Kp.new hl) (hh.newL hl g2) a1g (q l (hh.free hl))⟩
  ·exact q.elim
 ·exact q.elim
noncomputable def b5J : List T → MH → VK3 → Prop := fun xs M Q => match xs with
 | [.int i] => Q (.int i) M
 | [.bl k] => Q (.int (if k = true then 1 else 0)) M
 | [.str x] => ∃ n, PySem.intText? x = some n ∧ x.length ≤ 640 ∧ Q (.int n) M
 | _ => False
theorem b3b : a2E X (.type "int") b5J := by
 intro pins s σ H vs us Q2 I r h
 obtain ⟨xs, M, Q, rr, hh, q, en⟩ := h
 unfold b5J at q
 split at q
 ·obtain ⟨v, rfl, r1⟩ := a1s rr
  obtain rfl := a0p r1
  exact a8h pins s σ H _ us Q2 I r (.inl ⟨_, rfl, en _ _ M H Kp.refl hh a0w q⟩)
 ·obtain ⟨v, rfl, r1⟩ := a1s rr
  obtain rfl := a4n r1
  exact a8h pins s σ H _ us Q2 I r (.inr ⟨_, rfl, en _ _ M H Kp.refl hh a0w q⟩)
 ·obtain ⟨n, hn, hl, q⟩ := q
  obtain ⟨v, rfl, r1⟩ := a1s rr
  obtain rfl := a2T r1
  obtain ⟨u, rfl, ru⟩ := a3z r
  obtain ⟨t, rfl⟩ := ru
  exact PySem.W.KIN.call_text hn hl ⟨.int n, H, I.kept fun b o e => e, ⟨_, rfl⟩, en _ _ M H Kp.refl hh a0w q⟩
 ·exact q.elim
theorem a5S (hc : X.calm = true) : a4T X (.builtin "all") (fun xs H Q => ∃ (p : Addr) (bs : List Bool), xs = [.ref p] ∧ SqL X.K H p (bs.map V.bl) ∧ Q (.bl (bs.all id)) H) := by
 intro pins s σ H xs us Q I r h
 obtain ⟨p, bs, rfl, hq, q⟩ := h
 obtain ⟨u, rfl, rx⟩ := a3z r
 cases rx
 obtain ⟨its, r', pl, hz⟩ := I.list hq
 have hlen := r'.length
 refine call_all_walk (wpAny_pyIter_list pl.isList ?_)
 have hp : p < s.heap.objs.size := by obtain ⟨o, n, e, _⟩ := pl; exact Heap.lt_size e
 refine ⟨s.heap.objs.size, _, _, _, _, _, fun i => (bs[i]?).getD true, rfl, Walks.list (A := X.A.in1) (I.ok.hd hc) s.heap.objs.size p (Nat.ne_of_lt hp) its.toArray, ⟨⟨_, Heap.get?_push_size _ rfl, rfl, rfl⟩, pl.isList.push _⟩, ?_, fun h' tk hk => ?_⟩
 ·intro i v s' Q' E' hP hQ
  have hP' : its[i]? = some v := by simpa using hP
  have hi : i < bs.length := by
   have := (List.getElem?_eq_some_iff.mp hP').1
   rw [List.length_map] at hlen; lia
  obtain ⟨w, hw, rw'⟩ := r'.get (i := i) (x := .bl bs[i]) (by rw [List.getElem?_map, List.getElem?_eq_getElem hi] <;> rfl)
  rw [hP'] at hw; cases hw
  obtain rfl : v = Value.bool bs[i] := rw'
  refine wpAny_truthy_bool ?_
  have e : (bs[i]?).getD true = bs[i] := by rw [List.getElem?_eq_getElem hi] <;> rfl
  dsimp only at hQ; rw [e] at hQ; exact hQ
 ·have e : (List.range its.toArray.size).all (fun i => (bs[i]?).getD true) = bs.all id := by
   rw [List.length_map] at hlen
   rw [List.size_toArray, ← hlen]
   rw [Bool.eq_iff_iff]
   simp only [List.all_eq_true, List.mem_range, id]
   constructor
   ·intro h b hb
    obtain ⟨i, hi, rfl⟩ := List.getElem_of_mem hb
    have := h i hi
    rw [List.getElem?_eq_getElem hi] at this; exact this
   ·intro h i hi
    rw [List.getElem?_eq_getElem hi]; exact h _ (List.getElem_mem hi)
  rw [e]
  have I1 : Inv X pins σ H { s with heap := h', toks := tk } := I.kept fun b o eb => hk b o (by
   intro hm
   have : b = s.heap.objs.size := by simpa using hm
   rw [this] at eb
   exact absurd (Heap.lt_size eb) (Nat.lt_irrefl _)) (Heap.get?_push_of_some _ eb)
  exact ⟨.bl _, H, I1, rfl, q⟩
noncomputable def a7j : List T → Option (List Bool)
 | [] => some []
 | .bl b :: ts => (a7j ts).map (b :: ·)
 | _ :: _ => none
theorem a6l {K : PySem.W.Frag} {H : Hp} : ∀ {vs : List V} {ts : List T} {bs : List Bool}, Reps K H vs ts → a7j ts = some bs → vs = bs.map V.bl
 | vs, [], bs, h, e => by unfold a7j at e; cases e; unfold Reps at h; exact h
 | vs, t :: ts, bs, h, e => by
   unfold Reps at h
   obtain ⟨v, r, rfl, h1, h2⟩ := h
   cases t with
   | bl b =>
     unfold a7j at e
     cases q : a7j ts with
     | none => rw [q] at e; cases e
     | some cs =>
       rw [q] at e; cases e
       obtain rfl := a4n h1
       rw [a6l h2 q]; rfl
   | _ => unfold a7j at e; cases e
noncomputable def b5L : List T → MH → VK3 → Prop := fun xs M Q => match xs with
 | [.adr p] => (match M p with | some (.lst ts) => (match a7j ts with | some bs => Q (.bl (bs.all id)) M | none => False) | _ => False)
 | _ => False
theorem b3c (hc : X.calm = true) : a2E X (.builtin "all") b5L := by
 intro pins s σ H vs us Q2 I r h
 obtain ⟨xs, M, Q, rr, hh, q, en⟩ := h
 unfold b5L at q
 split at q
 ·obtain ⟨v, rfl, r1⟩ := a1s rr
  obtain rfl := a0v r1
  split at q
  ·rename_i ts e0
   obtain ⟨ys, g1, g2⟩ := hh _ _ e0
   split at q
   ·rename_i bs eb
    obtain rfl := a6l g2 eb
    exact a5S hc pins s σ H _ us Q2 I r ⟨_, bs, rfl, SqL.of g1, en _ _ M H Kp.refl hh a2Y q⟩
   ·exact q.elim
  ·exact q.elim
 ·exact q.elim
inductive Ki where
 | non | bool | int | str | tup | list | dict
noncomputable def a5t : Ki → String
 | .non => "NoneType" | .bool => "bool" | .int => "int" | .str => "str" | .tup => "tuple" | .list => "list" | .dict => "dict"
noncomputable def isiK : Ki → Ki → Bool
 | .bool, .int => true
 | .non, .non => true
 | .bool, .bool => true
 | .int, .int => true
 | .str, .str => true
 | .tup, .tup => true
 | .list, .list => true
 | .dict, .dict => true
 | _, _ => false
theorem b8s (K : PySem.W.Frag) (a b : Ki) (hb : b ≠ .non) : PySem.W.kitOne K (.type (a5t a)) (.type (a5t b)) = some (isiK a b) := by
 cases b with
 | non => exact absurd rfl hb
 | _ => cases a <;> rfl
noncomputable def tyK : MH → T → Option Ki
 | _, .non => some .non
 | _, .bl _ => some .bool
 | _, .int _ => some .int
 | _, .str _ => some .str
 | _, .tup _ => some .tup
 | _, .rd _ => some .list
 | _, .dic _ _ => none
 | M, .adr p => match M p with
   | some (.lst _) => some .list
   | some (.dk _) => some .dict
   | some (.dt _) => some .dict
   | some (.fz _) => none
   | some (.fk _) => none
   | some (.ob _ _) => none
   | none => none
theorem a3K (M : MH) (p : Addr) : tyK M (.adr p) = (match M p with | some (.lst _) => some Ki.list | some (.dk _) => some Ki.dict | some (.dt _) => some Ki.dict | some (.fz _) => none | some (.fk _) => none | some (.ob _ _) => none | none => none) := rfl
theorem isi3 {pins : List (Addr × Obj)} {σ : St} {H : Hp} {s : Shared} {M : MH} {x : T} {v : V} {u : Value} {n c : Ki} {Q : Value → Shared → Prop} (I : Inv X pins σ H s) (hh : HR X.K H M) (r : Rep X.K H v x) (rv : RelV v u) (ht : tyK M x = some n) (hc : c ≠ .non)
  (h : ∀ tk, Q (.bool (isiK n c)) { s with toks := tk }) : wpAny (model X.prog X.w) X.A (call (.builtin "isinstance") [u, .type (a5t c)]) Q X.xe s := by
 have e := b8s X.K n c hc
 cases x with
 | non => obtain rfl := b2v r; cases ht; exact a2c I rv .non e h
 | bl k => obtain rfl := a4n r; cases ht; exact a2c I rv (.bl k) e h
 | int i => obtain rfl := a0p r; cases ht; exact a2c I rv (.int i) e h
 | str z => obtain rfl := a2T r; cases ht; exact a2c I rv (.str z) e h
 | tup ts =>
   obtain ⟨p, xs, rfl, g1, g2⟩ := a0H r
   cases ht
   cases rv
   obtain ⟨its, _, pt, _⟩ := I.tuple g1
   obtain ⟨o, h1, h2, _⟩ := pt
   exact PySem.W.kia_one PySem.W.kitx_tuple I.kIn ⟨o, h1, h2⟩ e (fun z => nomatch z) h
 | rd ts =>
   obtain ⟨p, xs, rfl, g1, g2⟩ := a6f r
   cases ht
   cases rv
   obtain ⟨its, _, pl, _⟩ := I.list g1.sq
   obtain ⟨o, n, h1, h2, _⟩ := pl
   exact PySem.W.kia_one PySem.W.kitx_list I.kIn ⟨o, h1, h2⟩ e (fun z => nomatch z) h
 | dic ks ts => cases ht
 | adr p =>
   obtain rfl := a0v r
   cases e0 : M p with
   | none =>
     have q : tyK M (.adr p) = none := by rw [a3K, e0]
     rw [q] at ht; cases ht
   | some o =>
     cases o with
     | lst ts =>
       have q : tyK M (.adr p) = some .list := by rw [a3K, e0]
       rw [q] at ht; cases ht
       obtain ⟨xs, g1, _⟩ := hh _ _ e0
       exact a2c I rv (.lst g1) e h
     | dk kvs =>
       have q : tyK M (.adr p) = some .dict := by rw [a3K, e0]
       rw [q] at ht; cases ht
       obtain ⟨xs, g1, _⟩ := hh _ _ e0
       exact a2c I rv (.dK g1) e h
     | dt kvs =>
       have q : tyK M (.adr p) = some .dict := by rw [a3K, e0]
       rw [q] at ht; cases ht
       obtain ⟨xs, g1, _⟩ := hh _ _ e0
       exact a2c I rv (.dT g1) e h
     | fz kvs =>
       have q : tyK M (.adr p) = none := by rw [a3K, e0]
       rw [q] at ht; cases ht
     | fk kvs =>
       have q : tyK M (.adr p) = none := by rw [a3K, e0]
       rw [q] at ht; cases ht
     | ob C fs =>
       have q : tyK M (.adr p) = none := by rw [a3K, e0]
       rw [q] at ht; cases ht
noncomputable def tIsi (c : Ki) (ta : TE3) : TE3 := fun ρ M Q => ta ρ M fun x M1 => match tyK M1 x with
 | some n => Q (.bl (isiK n c)) M1
 | none => False
theorem b4j {e : Expr} {te : TE3} {y : Str} {p p' pos : Pos} (c : Ki) (he : HE X e te) (hm : X.mg "isinstance" = none) (hm' : X.mg y = none) (hv : bootBuiltins y = some (.type (a5t c))) (hc : c ≠ .non := by intro z; cases z) (hg : Gl X "isinstance" := by rfl) (hg' : Gl X y := by rfl) (hn : y ≠ "__name__" := by decide)
  (hdb : (y == ("__debug__" : Str)) = false := by decide) (hs : starEach [e, .Name y p'] X.env = (false, eval e X.env) :: starEach [.Name y p'] X.env := by rfl) (hs2 : starEach [.Name y p'] X.env = (false, eval (.Name y p') X.env) :: starEach [] X.env := by rfl)
  (hpl : (backTo pos (starEach [.Name y p'] X.env)).any (·.1) = false := by rfl) :
  HE X (.Call (.Name "isinstance" p) [e, .Name y p'] [] pos) (tIsi c te) := by
 intro ρ M Q h pins s σ H Q2 I b
 obtain ⟨hr, hh, en⟩ := b
 have pa := a6J (X := X) (he.d (ρ := ρ)) (a6J (b6d (v := .ty (a5t c)) (pos := p') hg' hm' hv rfl hn hdb) b1P hs2) hs
 refine wpAny_Call_Name_kw (a3F I hg hm boot_isinstance ?_ (by decide) (by decide))
 refine PyProof.Rows.callWith_builtin1 (thn (pa pos pins s σ H (fun vs H1 => ∃ v t M1, vs = [v, .ty (a5t c)] ∧ Rep X.K H1 v t ∧ HR X.K H1 M1 ∧ Kp X.K H H1 ∧ (match tyK M1 t with
 | some n => Q (.bl (isiK n c)) M1
 | none => False)) I ⟨M, _, h, hr, hh, fun t v M1 H1 k1 h1 r1 q1 => ⟨v, t, M1, rfl, r1, h1, k1, q1⟩⟩) fun us s1 ⟨vs, H1, I1, rv, v, t, M1, ev, r1, h1, k1, q1⟩ => ?_) hs hpl
 subst ev
 obtain ⟨u, w', rfl, ru, rw'⟩ := b9c rv
 obtain rfl : w' = Value.type (a5t c) := rw'
 split at q1
 ·rename_i n e1
  exact isi3 I1 h1 r1 ru e1 hc fun tk => ⟨.bl _, H1, I1.tok _, rfl, en _ _ M1 H1 k1 h1 a2Y q1⟩
 ·exact q1.elim
end
section
variable {X : Cx} {a b c e : Expr} {st : Stmt} {rest ba bb body : List Stmt} {ta tb te : TE3} {tA : TT3} {t u : TS3} {pos : Pos}
noncomputable def b4E : TS3 := fun D ρ M => D.nx ρ M
noncomputable def a5d (t u : TS3) : TS3 := fun D ρ M => t { D with nx := u D } ρ M
theorem EndS.nx' {K : PySem.W.Frag} {H : Hp} {D : Ends3} {D2 : Ends} {t : TS3} (h : EndS K H D D2) : EndS K H { D with nx := t D } { D2 with nx := dS K t D2 } :=
 ⟨fun ρ' M' σ' H' k r hh q => ⟨D, ρ', M', q, r, hh, h.kp k⟩, h.rt, h.bk, h.ct⟩
theorem a3b : HSs X [] b4E := fun D ρ M h => b5U.imp fun D2 σ H ⟨hr, hh, en⟩ => en.nx ρ M σ H Kp.refl hr hh h
theorem a0b (h1 : HS X st t) (h2 : HSs X rest u) : HSs X (st :: rest) (a5d t u) := fun D ρ M h =>
 (b3I h1.d h2.d).imp fun D2 σ H ⟨hr, hh, en⟩ => ⟨{ D with nx := u D }, ρ, M, h, hr, hh, en.nx'⟩
theorem a0j (h1 : HS X st t) : HSs X [st] t := fun D ρ M h => b5T (h1 D ρ M h)
noncomputable def b7h (te : TE3) : TS3 := fun D ρ M => te ρ M D.rt
theorem a0U (he : HE X e te) : HS X (.Return (some e) pos) (b7h te) := fun D ρ M h =>
 (b7L (he.d (ρ := ρ))).imp fun D2 σ H ⟨hr, hh, en⟩ => ⟨M, _, h, hr, hh, en.rt⟩
noncomputable def b7l (c : TT3) (t u : TS3) : TS3 := fun D ρ M => c ρ M fun b M1 => if b = true then t D ρ M1 else u D ρ M1
theorem s_if (hc : HT X c tA) (ha : HSs X ba t) (hb : HSs X bb u) : HS X (.If c ba bb pos) (b7l tA t u) := fun D ρ M h =>
 (b9E (hc.d (ρ := ρ)) ha.d hb.d).imp fun D2 σ H ⟨hr, hh, en⟩ => ⟨M, _, h, hr, hh, fun b M1 H1 k1 h1 q1 => by
  dsimp only at q1 ⊢
  split
  ·rename_i hb; rw [if_pos hb] at q1
   exact ⟨D, ρ, M1, q1, hr.kp k1, h1, en.kp k1⟩
  ·rename_i hb; rw [if_neg hb] at q1
   exact ⟨D, ρ, M1, q1, hr.kp k1, h1, en.kp k1⟩⟩
noncomputable def b5o : TS3 := fun _ _ _ => False
theorem b5x : HS X st b5o := fun _ _ _ h => h.elim
noncomputable def b4F (te : TE3) : TS3 := fun D ρ M => te ρ M fun _ M1 => D.nx ρ M1
theorem a3E (he : HE X e te) (hs : swapsWith e none pos.line X.env = pure false := by rfl) : HS X (.Expr e pos) (b4F te) := fun D ρ M h =>
 (b5V (he.d (ρ := ρ)) hs).imp fun D2 σ H ⟨hr, hh, en⟩ => ⟨M, _, h, hr, hh, fun x v M1 H1 k1 h1 r1 q1 => en.nx ρ M1 σ H1 k1 (hr.kp k1) h1 q1⟩
noncomputable def b7g (i : Nat) (te : TE3) : TS3 := fun D ρ M => te ρ M fun x M1 => D.nx (ρ.set i (some x)) M1
theorem a0D {i : Nat} {x : Str} {pos' : Pos} (he : HE X e te) (hN : X.N.Nodup) (hi : X.N[i]? = some x := by rfl) (hx : Loc X.env.scope x := by first | exact Or.inl rfl | exact Or.inr rfl) (hs : swapsWith e (some (.Name x pos')) pos.line X.env = pure false := by rfl)
  (hf : X.fn x = true ∨ X.env.scope.names.lookup x = some .local := by first | exact .inl rfl | exact .inr rfl | assumption) : HS X (.Assign [.Name x pos'] e pos) (b7g i te) := fun D ρ M h =>
 (b7K hN hi hx (he.d (ρ := ρ)) hs hf).imp fun D2 σ H ⟨hr, hh, en⟩ => ⟨M, _, h, hr, hh, fun t v M1 H1 k1 h1 r1 q1 => en.nx _ M1 _ H1 k1 ((hr.kp k1).set i r1) h1 q1⟩
noncomputable abbrev TG3 := T → En → MH → (En → MH → Prop) → Prop
noncomputable abbrev TGs3 := List T → En → MH → (En → MH → Prop) → Prop
noncomputable def EndG (K : PySem.W.Frag) (H : Hp) (Q : En → MH → Prop) (Q2 : St → Hp → Prop) : Prop := ∀ ρ' M' σ' H', Kp K H H' → RhoR K σ' H' ρ' → HR K H' M' → Q ρ' M' → Q2 σ' H'
noncomputable def dG (K : PySem.W.Frag) (g : TG3) : TG := fun v σ H Q2 => ∃ t ρ M Q, g t ρ M Q ∧ Rep K H v t ∧ RhoR K σ H ρ ∧ HR K H M ∧ EndG K H Q Q2
noncomputable def dGs (K : PySem.W.Frag) (g : TGs3) : TGs := fun vs σ H Q2 => ∃ ts ρ M Q, g ts ρ M Q ∧ Reps K H vs ts ∧ RhoR K σ H ρ ∧ HR K H M ∧ EndG K H Q Q2
noncomputable def HG (X : Cx) (tg : Expr) (g : TG3) : Prop := PG X tg (dG X.K g)
noncomputable def HGs (X : Cx) (tgs : List Expr) (g : TGs3) : Prop := PGs X tgs (dGs X.K g)
noncomputable def a7Y (i : Nat) : TG3 := fun t ρ M Q => Q (ρ.set i (some t)) M
theorem PG.imp {tg : Expr} {g g' : TG} (h : PG X tg g) (f : ∀ v σ H Q, g' v σ H Q → g v σ H Q) : PG X tg g' := fun pins s σ H v u Q I r q => h pins s σ H v u Q I r (f v σ H Q q)
theorem PGs.imp {tg : List Expr} {g g' : TGs} (h : PGs X tg g) (f : ∀ v σ H Q, g' v σ H Q → g v σ H Q) : PGs X tg g' := fun pins s σ H v u Q I r q => h pins s σ H v u Q I r (f v σ H Q q)
theorem a1H {i : Nat} {x : Str} (hN : X.N.Nodup) (hi : X.N[i]? = some x := by rfl) (hx : Loc X.env.scope x := by first | exact Or.inl rfl | exact Or.inr rfl) (hf : X.fn x = true ∨ X.env.scope.names.lookup x = some .local := by first | exact .inl rfl | exact .inr rfl | assumption) : HG X (.Name x pos) (a7Y i) :=
 (a1n hN hi hx hf).imp fun v σ H Q2 ⟨t, ρ, M, Q, q, r, hr, hh, en⟩ => en _ M _ H Kp.refl (hr.set i r) hh q
noncomputable def b6C : TGs3 := fun ts ρ M Q => ts = [] ∧ Q ρ M
noncomputable def a7Z (g : TG3) (gs : TGs3) : TGs3 := fun ts ρ M Q => match ts with
 | t :: r => g t ρ M fun ρ1 M1 => gs r ρ1 M1 Q
 | [] => False
theorem a7W : HGs X [] b6C := a6I.imp fun v σ H Q2 ⟨ts, ρ, M, Q, ⟨e, q⟩, r, hr, hh, en⟩ => by
 subst e
 unfold Reps at r
 exact ⟨r, en ρ M σ H Kp.refl hr hh q⟩
theorem a2v {es : List Expr} {g : TG3} {gs : TGs3} (h1 : HG X e g) (h2 : HGs X es gs) (hs : (assignEach (e :: es) X.env).map (·.2) = assign e X.env :: (assignEach es X.env).map (·.2) := by rfl) : HGs X (e :: es) (a7Z g gs) :=
 (a2P h1 h2 hs).imp fun vs σ H Q2 ⟨ts, ρ, M, Q, q, r, hr, hh, en⟩ => by
  unfold a7Z at q
  split at q
  ·rename_i t r'
   unfold Reps at r
   obtain ⟨v, vr, rfl, r1, r2⟩ := r
   exact ⟨v, vr, rfl, t, ρ, M, _, q, r1, hr, hh, fun ρ' M' σ' H' k hr' hh' q' => ⟨r', ρ', M', Q, q', Reps.kp k _ _ r2, hr', hh', fun ρ2 M2 σ2 H2 k2 => en ρ2 M2 σ2 H2 (k.trans k2)⟩⟩
  ·exact q.elim
noncomputable def b2E (n : Nat) (gs : TGs3) : TG3 := fun t ρ M Q => match t with
 | .tup ts => ts.length = n ∧ gs ts ρ M Q
 | _ => False
theorem b2D {es : List Expr} {k : Nat} {gs : TGs3} {n : Nat} (hc : X.calm = true) (h : HGs X es gs) (hn : (assignEach es X.env).length = n := by rfl) (hst : (assignEach es X.env).findIdx? (·.1) = none := by rfl) : HG X (.Tuple es k pos) (b2E n gs) :=
 (a9y hc h hn hst).imp fun v σ H Q2 ⟨t, ρ, M, Q, q, r, hr, hh, en⟩ => by
  unfold b2E at q
  split at q
  ·rename_i ts
   obtain ⟨a, xs, rfl, g1, g2⟩ := a0H r
   exact ⟨a, xs, rfl, g1, by rw [g2.length]; exact q.1, ts, ρ, M, Q, q.2, g2, hr, hh, en⟩
  ·exact q.elim
noncomputable def b8G (to ti : TE3) : TG3 := fun v ρ M Q => to ρ M fun o M1 => ti ρ M1 fun i M2 => match o, i with
 | .adr p, .int k => (match M2 p with
   | some (.lst ts) => (match ixN ts.length k with | some j => Q ρ (updM M2 p (.lst (ts.set j v))) | none => False)
   | _ => False)
 | _, _ => False
theorem a7X {o i : Expr} {to ti : TE3} (ho : HE X o to) (hi : HE X i ti)
  (ha : ∀ v, assign (.Subscript o i pos) X.env v = (do
   let ov ← holding [v] (eval o X.env)
   let iv ← holding [v, ov] (eval i X.env)
   standAt pos
   holding [v, ov, iv] (setItem ov iv v)
   release [v, ov, iv] []) := by intro _; rfl) : HG X (.Subscript o i pos) (b8G to ti) := by
 intro pins s σ H v u Q2 I r h
 obtain ⟨t, ρ, M, Q, q, rt, hr, hh, en⟩ := h
 refine b7P (ho.d (ρ := ρ)) (hi.d (ρ := ρ)) b3v ha pins s σ H v u Q2 I r ?_
 refine ⟨M, _, q, hr, hh, fun ot ov M1 H1 k1 h1 r1 q1 => ⟨M1, _, q1, hr.kp k1, h1, fun it iv M2 H2 k2 h2 r2 q2 => ?_⟩⟩
 dsimp only at q2
 split at q2
 ·obtain rfl := a0v r1
  obtain rfl := a0p r2
  split at q2
  ·rename_i ts e0
   obtain ⟨xs, g1, g2⟩ := h2 _ _ e0
   split at q2
   ·rename_i j ej
    have kk := k1.trans k2
    refine ⟨_, xs, _, j, rfl, rfl, g1, by rw [g2.length]; exact ej, en _ _ σ _ (kk.trans (Kp.lst g1)) (hr.kp (kk.trans (Kp.lst g1))) (h2.setL g1 (g2.set (Rep.kp kk _ _ rt) j)) q2⟩
   ·exact q2.elim
  ·exact q2.elim
 ·exact q2.elim
noncomputable def b7r (te : TE3) (g : TG3) : TS3 := fun D ρ M => te ρ M fun x M1 => g x ρ M1 D.nx
theorem a7w {tg : Expr} {g : TG3} (he : HE X e te) (hg : HG X tg g) (hs : swapsWithSole [tg] e pos.line X.env = pure false := by rfl) (hw : swappedStores [tg] e X.env = pure none := by rfl)
  (h1 : (assignEach [tg] X.env).map (·.2) = [assign tg X.env] := by rfl) : HS X (.Assign [tg] e pos) (b7r te g) := fun D ρ M h =>
 (b7O (he.d (ρ := ρ)) hg hs hw h1).imp fun D2 σ H ⟨hr, hh, en⟩ => ⟨M, _, h, hr, hh, fun t v M1 H1 k1 h1 r1 q1 => ⟨t, ρ, M1, D.nx, q1, r1, hr.kp k1, h1, fun ρ' M' σ' H' k r hh' q => en.nx ρ' M' σ' H' (k1.trans k) r hh' q⟩⟩
structure It3 where
 items : List T
 stay : MH → Prop := fun _ => True
noncomputable abbrev TI3 := En → MH → (It3 → MH → Prop) → Prop
structure ItOk (K : PySem.W.Frag) (H : Hp) (J2 : It) (J : It3) : Prop where
 stop : ∀ H' M', Kp K H H' → HR K H' M' → J.stay M' → J2.stop J.items.length H'
 go : ∀ (i : Nat) (x : T) H' M', J.items[i]? = some x → Kp K H H' → HR K H' M' → J.stay M' → J2.go i H' ∧ ∀ v H'', J2.yld i H' v H'' → Kp K H' H'' ∧ HR K H'' M' ∧ Rep K H'' v x
noncomputable def HI (X : Cx) (tg iter : Expr) (wi : TI3) : Prop := ∀ ρ M R, wi ρ M R → PI X tg iter (fun σ H R2 => RhoR X.K σ H ρ ∧ HR X.K H M ∧ ∀ J J2 M' H', Kp X.K H H' → HR X.K H' M' → ItOk X.K H' J2 J → R J M' → R2 J2 H')
noncomputable def dI (K : PySem.W.Frag) (ρ : En) (wi : TI3) : TI := fun σ H R2 => ∃ M R, wi ρ M R ∧ RhoR K σ H ρ ∧ HR K H M ∧ ∀ J J2 M' H', Kp K H H' → HR K H' M' → ItOk K H' J2 J → R J M' → R2 J2 H'
theorem HI.d {tg iter : Expr} {wi : TI3} {ρ : En} (h : HI X tg iter wi) : PI X tg iter (dI X.K ρ wi) := fun pins s σ H R I ⟨M, R3, q, b⟩ => h ρ M R3 q pins s σ H R I b
theorem PI.imp {tg iter : Expr} {w w' : TI} (h : PI X tg iter w) (f : ∀ σ H R, w' σ H R → w σ H R) : PI X tg iter w' := fun pins s σ H R I q => h pins s σ H R I (f σ H R q)
noncomputable def b8A (tl : TE3) : TI3 := fun ρ M R => tl ρ M fun x M1 => match x with
 | .tup ts => R ⟨ts, fun _ => True⟩ M1
 | .adr p => (match M1 p with | some (.lst ts) => R ⟨ts, fun M' => M' p = some (.lst ts)⟩ M1 | _ => False)
 | _ => False
theorem b4d {K : PySem.W.Frag} {H : Hp} {a : Addr} {xs : List V} {ts : List T} (h : SqT K H a xs) (r : Reps K H xs ts) : ItOk K H (Itt K a) ⟨ts, fun _ => True⟩ := by
 refine ⟨fun H' M' k hh _ => ⟨xs, k.tup _ _ h, by rw [r.length]; exact Nat.le_refl _⟩, fun i x H' M' e k hh _ => ?_⟩
 obtain ⟨v, e1, r1⟩ := r.get e
 refine ⟨⟨xs, v, k.tup _ _ h, e1⟩, fun v' H'' y => ?_⟩
 obtain ⟨rfl, y⟩ := y
 have := y xs (k.tup _ _ h)
 rw [e1] at this; cases this
 exact ⟨Kp.refl, hh, Rep.kp k _ _ r1⟩
theorem b4f {K : PySem.W.Frag} {H : Hp} {a : Addr} {ts : List T} : ItOk K H (Itl K a) ⟨ts, fun M' => M' a = some (.lst ts)⟩ := by
 refine ⟨fun H' M' k hh st => ?_, fun i x H' M' e k hh st => ?_⟩
 ·obtain ⟨xs, g1, g2⟩ := hh _ _ st
  exact ⟨xs, SqL.of g1, by rw [g2.length]; exact Nat.le_refl _⟩
 ·obtain ⟨xs, g1, g2⟩ := hh _ _ st
  obtain ⟨v, e1, r1⟩ := g2.get e
  refine ⟨⟨xs, v, SqL.of g1, e1⟩, fun v' H'' y => ?_⟩
  obtain ⟨rfl, y⟩ := y
  have := y xs (SqL.of g1)
  rw [e1] at this; cases this
  exact ⟨Kp.refl, hh, r1⟩
noncomputable def a0P (lo : Int) (n : Nat) : List T := (List.range n).map fun i => T.int (lo + (i : Nat))
theorem b0M {K : PySem.W.Frag} {H : Hp} {lo : Int} {n : Nat} : ItOk K H (Itr lo n) ⟨a0P lo n, fun _ => True⟩ := by
 have hl : (a0P lo n).length = n := by unfold a0P; simp
 refine ⟨fun H' M' k hh _ => by show n ≤ (a0P lo n).length; rw [hl]; exact Nat.le_refl _, fun i x H' M' e k hh _ => ?_⟩
 have hi : i < n := by have := (List.getElem?_eq_some_iff.mp e).1; rwa [hl] at this
 have ex : x = .int (lo + (i : Nat)) := by
  unfold a0P at e
  rw [List.getElem?_map, List.getElem?_range hi] at e
  exact (Option.some.inj e).symm
 subst ex
 refine ⟨hi, fun v H'' y => ?_⟩
 obtain ⟨rfl, rfl⟩ := y
 exact ⟨Kp.refl, hh, a0w⟩
theorem a4y {tg l : Expr} {tl : TE3} (hl : HE X l tl) : HI X tg l (b8A tl) := by
 intro ρ M R h pins s σ H R2 I b
 obtain ⟨hr, hh, en⟩ := b
 refine thn (hl ρ M _ h pins s σ H (fun v H1 => ∃ t M1, Kp X.K H H1 ∧ HR X.K H1 M1 ∧ Rep X.K H1 v t ∧ (match t with
  | .tup ts => R ⟨ts, fun _ => True⟩ M1
  | .adr p => (match M1 p with | some (.lst ts) => R ⟨ts, fun M' => M' p = some (.lst ts)⟩ M1 | _ => False)
  | _ => False)) I ⟨hr, hh, fun t v M1 H1 k1 h1 r1 q1 => ⟨t, M1, k1, h1, r1, q1⟩⟩) fun v s1 ⟨x, H1, I1, rv, t, M1, k1, h1, r1, q1⟩ => ?_
 split at q1
 ·rename_i ts
  obtain ⟨a, xs, rfl, g1, g2⟩ := a0H r1
  cases rv
  obtain ⟨its, rv, p, hz⟩ := I1.tuple g1
  refine wpAny_pyIter_tuple (show s1.heap.IsTuple a its.toArray from p) ?_
  refine ⟨s1.heap.objs.size, [s1.heap.objs.size], _, _, H1, rfl, I1.kept (t' := s1.toks) fun b o e => Heap.get?_push_of_some _ e, b0m a _, ⟨_, Heap.get?_push_size _ rfl, rfl, rfl⟩, fun b hb => ?_, en _ _ M1 H1 k1 h1 (b4d g1 g2) q1⟩
  have e : b = s1.heap.objs.size := by simpa using hb
  subst e
  exact I1.fpOk (Nat.le_refl _) (I1.hok.fresh (Nat.le_refl _))
 ·rename_i a
  obtain rfl := a0v r1
  cases rv
  split at q1
  ·rename_i ts e0
   obtain ⟨xs, g1, g2⟩ := h1 _ _ e0
   obtain ⟨its, rv, p, hz⟩ := I1.list (SqL.of g1)
   refine wpAny_pyIter_list p.isList ?_
   refine ⟨s1.heap.objs.size, [s1.heap.objs.size], _, _, H1, rfl, I1.kept (t' := s1.toks) fun b o e => Heap.get?_push_of_some _ e, b1h a _, ⟨_, Heap.get?_push_size _ rfl, rfl, rfl⟩, fun b hb => ?_, en _ _ M1 H1 k1 h1 b4f q1⟩
   have e : b = s1.heap.objs.size := by simpa using hb
   subst e
   exact I1.fpOk (Nat.le_refl _) (I1.hok.fresh (Nat.le_refl _))
  ·exact q1.elim
 ·exact q1.elim
noncomputable def b2y (t : TA3) : TI3 := fun ρ M R => t ρ M fun xs M1 => match xs with
 | [.int j] => -(2 ^ 62) ≤ j ∧ j < 2 ^ 62 ∧ R ⟨a0P 0 j.toNat, fun _ => True⟩ M1
 | _ => False
noncomputable def b6y (t : TA3) : TI3 := fun ρ M R => t ρ M fun xs M1 => match xs with
 | [.int i, .int j] => (-(2 ^ 62) ≤ i ∧ i < 2 ^ 62 ∧ -(2 ^ 62) ≤ j ∧ j < 2 ^ 62) ∧ R ⟨a0P i (j - i).toNat, fun _ => True⟩ M1
 | _ => False
theorem a4q {tg : Expr} {t : TA3} {p : Pos} (hm : X.mg "range" = none) (ha : HA X [a] t) (hg : Gl X "range" := by rfl) (hs : starEach [a] X.env = [(false, eval a X.env)] := by rfl) : HI X tg (.Call (.Name "range" p) [a] [] pos) (b2y t) := fun ρ M R h =>
 (b1M hg hm (ha.d (ρ := ρ)) hs).imp fun σ H R2 ⟨hr, hh, en⟩ => ⟨M, _, h, hr, hh, fun ts vs M1 H1 k1 h1 r1 q1 => by
  dsimp only at q1
  split at q1
  ·rename_i j
   obtain ⟨v, rfl, rv⟩ := a1s r1
   obtain rfl := a0p rv
   exact ⟨j, rfl, q1.1, q1.2.1, en _ _ M1 H1 k1 h1 b0M q1.2.2⟩
  ·exact q1.elim⟩
noncomputable def a4O (wi : TI3) (g : TG3) (tb : TS3) : TS3 := fun D ρ M => wi ρ M fun J M1 => ∃ W : Nat → En → MH → Prop, W 0 ρ M1 ∧ (∀ i ρ M, W i ρ M → J.stay M) ∧
 (∀ i x ρ M, J.items[i]? = some x → W i ρ M → g x ρ M fun ρ2 M2 => tb { D with nx := W (i + 1), ct := W (i + 1), bk := D.nx } ρ2 M2) ∧ ∀ ρ M, W J.items.length ρ M → D.nx ρ M
theorem a5h {tg iter : Expr} {wi : TI3} {g : TG3} {tb : TS3} (hp : PassesOwn (model X.prog X.w) X.A X.env X.xe) (hc : X.calm = true) (hi : HI X tg iter wi) (hg : HG X tg g) (hb : HSs X body tb)
  (hs : ∀ x, foldedSetIterable iter X.env x = pure x := by intro _; rfl) : HS X (.For tg iter body [] pos) (a4O wi g tb) := fun D ρ0 M0 h =>
 (b7M hp hc (hi.d (ρ := ρ0)) hg hb.d hs).imp fun D2 σ0 H0 ⟨hr0, hh0, en⟩ => ⟨M0, _, h, hr0, hh0, fun J J2 M1 H1 k1 h1 ok q1 => by
  obtain ⟨W, w0, wst, turn, fin⟩ := q1
  refine ⟨fun i m σ H => m = J.items.length - i ∧ i ≤ J.items.length ∧ Kp X.K H1 H ∧ ∃ ρ M, RhoR X.K σ H ρ ∧ HR X.K H M ∧ W i ρ M, ⟨_, rfl, Nat.zero_le _, Kp.refl, ρ0, M1, hr0.kp k1, h1, w0⟩, ?_⟩
  rintro i m σ H ⟨rfl, hi, kk, ρ, M, hr, hh, w⟩
  have st := wst i ρ M w
  by_cases hlt : i < J.items.length
  ·have e : J.items[i]? = some J.items[i] := List.getElem?_eq_getElem hlt
   obtain ⟨go, yl⟩ := ok.go i _ H M e kk hh st
   refine .inr ⟨go, fun σ' H' => i + 1 ≤ J.items.length ∧ Kp X.K H1 H' ∧ ∃ ρ M, RhoR X.K σ' H' ρ ∧ HR X.K H' M ∧ W (i + 1) ρ M, fun σ' H' ⟨a, b, c⟩ => ⟨_, by lia, rfl, a, b, c⟩, fun v H' y => ?_⟩
   obtain ⟨k2, h2, r2⟩ := yl v H' y
   refine ⟨J.items[i], ρ, M, _, turn i _ ρ M e w, r2, hr.kp k2, h2, fun ρ3 M3 σ3 H3 k3 hr3 hh3 q3 => ⟨_, ρ3, M3, q3, hr3, hh3, ?_⟩⟩
   have kall := kk.trans (k2.trans k3)
   refine ⟨fun ρ4 M4 σ4 H4 k4 hr4 hh4 q4 => ⟨hlt, kall.trans k4, ρ4, M4, hr4, hh4, q4⟩, fun t v M4 H4 k4 h4 r4 q4 => en.rt t v M4 H4 (k1.trans (kall.trans k4)) h4 r4 q4, fun ρ4 M4 σ4 H4 k4 hr4 hh4 q4 => en.nx ρ4 M4 σ4 H4 (k1.trans (kall.trans k4)) hr4 hh4 q4, fun ρ4 M4 σ4 H4 k4 hr4 hh4 q4 => ⟨hlt, kall.trans k4, ρ4, M4, hr4, hh4, q4⟩⟩
  ·have e : i = J.items.length := by lia
   subst e
   exact .inl ⟨ok.stop H M kk hh st, en.nx ρ M σ H (k1.trans kk) hr hh (fin ρ M w)⟩⟩
noncomputable def a3a (c : TT3) (tb : TS3) : TS3 := fun D ρ M => ∃ W : Nat → En → MH → Prop, (∃ m, W m ρ M) ∧ ∀ m ρ M, W m ρ M →
 c ρ M fun b M1 => if b = true then tb { D with nx := fun ρ' M' => ∃ m', m' < m ∧ W m' ρ' M', ct := fun ρ' M' => ∃ m', m' < m ∧ W m' ρ' M', bk := D.nx } ρ M1 else D.nx ρ M1
theorem a8C {c : Expr} {tc : TT3} {tb : TS3} (hp : PassesOwn (model X.prog X.w) X.A X.env X.xe) (hc : HT X c tc) (hb : HSs X body tb) : HS X (.While c body [] pos) (a3a tc tb) := by
 intro D ρ0 M0 h pins s σ H D2 I b
 obtain ⟨hr0, hh0, en⟩ := b
 obtain ⟨W, ⟨m0, w0⟩, turn⟩ := h
 refine wpAny_While (codeAny_whileLoop (fun n s' => ∃ σ' H' ρ M, Inv X pins σ' H' s' ∧ Kp X.K H H' ∧ RhoR X.K σ' H' ρ ∧ HR X.K H' M ∧ W n ρ M) ?_ m0 ⟨σ, H, ρ0, M0, I, Kp.refl, hr0, hh0, w0⟩)
 rintro n s1 ⟨σ1, H1, ρ, M, I1, k1, hr, hh, w1⟩
 refine wpAny_passesOwn hp (thn (hc ρ M _ (turn n ρ M w1) pins s1 σ1 H1 (fun b H2 => ∃ M2, Kp X.K H1 H2 ∧ HR X.K H2 M2 ∧ (if b = true then tb { D with nx := fun ρ' M' => ∃ m', m' < n ∧ W m' ρ' M', ct := fun ρ' M' => ∃ m', m' < n ∧ W m' ρ' M', bk := D.nx } ρ M2 else D.nx ρ M2)) I1 ⟨hr, hh, fun b M2 H2 k2 h2 q2 => ⟨M2, k2, h2, q2⟩⟩) fun b s2 ⟨H2, I2, M2, k2, h2, q2⟩ => ?_)
 have kk := k1.trans k2
 cases b with
 | true =>
   rw [if_pos rfl] at q2
   rw [if_pos rfl]
   refine wpAny_passesOwn hp (thn (hb _ ρ M2 q2 pins s2 σ1 H2 { nx := fun σ' H' => ∃ ρ' M', Kp X.K H2 H' ∧ RhoR X.K σ' H' ρ' ∧ HR X.K H' M' ∧ ∃ m', m' < n ∧ W m' ρ' M', rt := D2.rt, bk := D2.nx, ct := fun σ' H' => ∃ ρ' M', Kp X.K H2 H' ∧ RhoR X.K σ' H' ρ' ∧ HR X.K H' M' ∧ ∃ m', m' < n ∧ W m' ρ' M' } I2
    ⟨hr.kp k2, h2, ⟨fun ρ' M' σ' H' k r hh' q => ⟨ρ', M', k, r, hh', q⟩, en.rt.kp kk, fun ρ' M' σ' H' k r hh' q => en.nx ρ' M' σ' H' (kk.trans k) r hh' q, fun ρ' M' σ' H' k r hh' q => ⟨ρ', M', k, r, hh', q⟩⟩⟩) fun f s3 q3 => ?_)
   cases f with
   | next =>
     obtain ⟨σ3, H3, I3, ρ', M', k3, r3, h3, m', hm, w3⟩ := q3
     exact ⟨m', hm, σ3, H3, ρ', M', I3, kk.trans k3, r3, h3, w3⟩
   | cont =>
     obtain ⟨σ3, H3, I3, ρ', M', k3, r3, h3, m', hm, w3⟩ := q3
     exact ⟨m', hm, σ3, H3, ρ', M', I3, kk.trans k3, r3, h3, w3⟩
   | brk => exact q3
   | ret v => exact q3
 | false =>
   rw [if_neg Bool.false_ne_true] at q2
   rw [if_neg Bool.false_ne_true]
   exact wpAny_execs_nil ⟨σ1, H2, I2, en.nx ρ M2 σ1 H2 kk (hr.kp k2) h2 q2⟩
noncomputable def a6H (ix : List (Option Nat)) (ρ : En) : En := ix.map fun o => match o with | some j => (ρ[j]?).join | none => none
theorem b3z {K : PySem.W.Frag} {σ : St} {H : Hp} {ρ : En} (ix : List (Option Nat)) (h : RhoR K σ H ρ) : RhoR K (pick ix σ) H (a6H ix ρ) := by
 refine ⟨by unfold pick a6H; simp, fun i t e => ?_⟩
 unfold a6H at e
 unfold pick
 rw [List.getElem?_map] at e ⊢
 cases hx : ix[i]? with
 | none => rw [hx] at e; cases e
 | some o =>
   rw [hx] at e
   cases o with
   | none =>
     have e' : (none : Option T) = some t := Option.some.inj e
     cases e'
   | some j =>
     have e' : (ρ[j]?).join = some t := Option.some.inj e
     cases hj : ρ[j]? with
     | none => rw [hj] at e'; cases e'
     | some u =>
       rw [hj] at e'
       have e2 : u = some t := e'
       subst e2
       obtain ⟨v, a, b⟩ := h.2 j t hj
       exact ⟨v, by show some ((σ[j]?).join) = some (some v); rw [a] <;> rfl, b⟩
noncomputable def b1n (wi : TI3) (ix : List (Option Nat)) (g : TG3) (tt : TT3) (te : TE3) : TE3 := fun ρ M Q => wi ρ M fun J M1 => ∃ W : Nat → List T → MH → Prop, W 0 [] M1 ∧ (∀ i ys M, W i ys M → J.stay M) ∧ J.items.length < sizeLine ∧
 (∀ i x ys M, J.items[i]? = some x → W i ys M → g x (a6H ix ρ) M fun ρ2 M2 => tt ρ2 M2 fun ok M3 => if ok = true then te ρ2 M3 fun y M4 => W (i + 1) (ys ++ [y]) M4 else W (i + 1) ys M3) ∧
 ∀ ys M, W J.items.length ys M → ∀ p, M p = none → Q (.adr p) (updM M p (.lst ys))
noncomputable def HTs (X : Cx) (ifs : List Expr) (t : TT3) : Prop := ∀ ρ M Q, t ρ M Q → PTs X ifs (bT X.K ρ M Q)
noncomputable def b7c : TT3 := fun _ M Q => Q true M
theorem a4J : HTs X [] b7c := fun ρ M Q h pins s σ H Q2 I ⟨hr, hh, en⟩ => b5R pins s σ H Q2 I (en true M H Kp.refl hh h)
theorem b4z {c : Expr} {t : TT3} (h : HT X c t) : HTs X [c] t := fun ρ M Q q => b5Q (h ρ M Q q)
end
noncomputable def dEx (K : PySem.W.Frag) (t : TE3) : TE := fun σ H Q2 => ∃ ρ M Q, t ρ M Q ∧ bE K ρ M Q σ H Q2
noncomputable def dTx (K : PySem.W.Frag) (t : TT3) : TT := fun σ H Q2 => ∃ ρ M Q, t ρ M Q ∧ bT K ρ M Q σ H Q2
section
variable {X : Cx} {e : Expr}
theorem HE.dx {t : TE3} (h : HE X e t) : PE X e (dEx X.K t) := fun pins s σ H Q I ⟨ρ, M, Q3, q, b⟩ => h ρ M Q3 q pins s σ H Q I b
theorem HTs.dx {ifs : List Expr} {t : TT3} (h : HTs X ifs t) : PTs X ifs (dTx X.K t) := fun pins s σ H Q I ⟨ρ, M, Q3, q, b⟩ => h ρ M Q3 q pins s σ H Q I b
structure BTg (K : PySem.W.Frag) (ix : List (Option Nat)) (g2 : TG) (g3 : TG3) : Prop where
 own : Own ix g2
 br : ∀ (t : T) (v : V) (ρ : En) (M : MH) (σ : St) (H : Hp) (Q3 : En → MH → Prop) (Q2 : St → Hp → Prop), Rep K H v t → RhoR K σ H ρ → HR K H M → g3 t ρ M Q3 → EndG K H Q3 Q2 → g2 v σ H Q2
theorem a3U {K : PySem.W.Frag} {ix : List (Option Nat)} {i : Nat} (h : ix[i]? = some none := by rfl) : BTg K ix (a8Z i) (a7Y i) :=
 ⟨a6K h, fun t v ρ M σ H Q3 Q2 r hr hh q en => en _ M _ H Kp.refl (hr.set i r) hh q⟩
theorem a9j {K : PySem.W.Frag} {ix : List (Option Nat)} {i j : Nat} (h : ix[i]? = some none := by rfl) (h' : ix[j]? = some none := by rfl) : BTg K ix (gTup K 2 (b4l (a8Z i) (b4l (a8Z j) gNil))) (b2E 2 (a7Z (a7Y i) (a7Z (a7Y j) b6C))) := by
 refine ⟨b6f (a7A a6h (a6K h) (a7A a6h (a6K h') b3R)), fun t v ρ M σ H Q3 Q2 r hr hh q en => ?_⟩
 unfold b2E at q
 split at q
 ·rename_i ts
  obtain ⟨a, xs, rfl, g1, g2⟩ := a0H r
  obtain ⟨hl, q⟩ := q
  match ts, hl, g2, q with
  | [x, y], _, g2, q =>
    obtain ⟨v1, v2, rfl, r1, r2⟩ := b5z g2
    refine ⟨a, _, rfl, g1, rfl, v1, [v2], rfl, v2, [], rfl, rfl, ?_⟩
    exact en _ M _ H Kp.refl ((hr.set i r1).set j r2) hh q.2
 ·exact q.elim
variable {elt iter tg : Expr} {ifs : List Expr} {pos : Pos} {scope : Scope} {N' : List Str} {ix : List (Option Nat)} {wi : TI3} {g2 : TG} {g3 : TG3} {tt : TT3} {te : TE3}
theorem b4r {X : Cx} {N' : List Str} {ix : List (Option Nat)} {wi : TI3} {g2 : TG} {g3 : TG3} {tt : TT3} {te : TE3} (bt : BTg X.K ix g2 g3) (ρ0 : En) (M0 : MH) (Q : VK3) (h : b1n wi ix g3 tt te ρ0 M0 Q) (σ0 : St) (H0 : Hp) (Q2 : VK) (bb : bE X.K ρ0 M0 Q σ0 H0 Q2) :
  b5q (dI X.K ρ0 wi) ix g2 (dTx X.K tt) (dEx X.K te) σ0 H0 Q2 := by
 obtain ⟨hr0, hh0, en⟩ := bb
 exact ⟨M0, _, h, hr0, hh0, fun J J2 M1 H1 k1 h1 ok q1 => by
  obtain ⟨W, w0, wst, hsz, turn, fin⟩ := q1
  refine ⟨fun i m ys H => m = J.items.length - i ∧ i ≤ J.items.length ∧ ys.length ≤ i ∧ Kp X.K H1 H ∧ ∃ ts M, Reps X.K H ys ts ∧ HR X.K H M ∧ W i ts M, ⟨_, rfl, Nat.zero_le _, Nat.zero_le _, Kp.refl, [], M1, .nil, h1, w0⟩, ?_⟩
  rintro i m ys H ⟨rfl, hi, hy, kk, ts, M, rts, hh, w⟩
  have st := wst i ts M w
  by_cases hlt : i < J.items.length
  ·have e : J.items[i]? = some J.items[i] := List.getElem?_eq_getElem hlt
   obtain ⟨go, yl⟩ := ok.go i _ H M e kk hh st
   refine .inr ⟨go, by lia, fun v H' y => ?_⟩
   obtain ⟨k2, h2, r2⟩ := yl v H' y
   have kk2 := kk.trans k2
   refine bt.br J.items[i] v _ M _ H' _ _ r2 (b3z ix (hr0.kp (k1.trans kk2))) h2 (turn i _ ts M e w) fun ρ3 M3 σ3 H3 k3 hr3 hh3 q3 => ⟨ρ3, M3, _, q3, hr3, hh3, fun b M4 H4 k4 h4 q4 => ?_⟩
   have kk4 := kk2.trans (k3.trans k4)
   dsimp only at q4 ⊢
   cases b with
   | true =>
     rw [if_pos rfl] at q4 ⊢
     refine ⟨ρ3, M4, _, q4, hr3.kp k4, h4, fun t5 v5 M5 H5 k5 h5 r5 q5 => ⟨_, Nat.sub_lt_sub_left hlt (Nat.lt_succ_self i), rfl, hlt, ?_, kk4.trans k5, ts ++ [t5], M5, ?_, h5, q5⟩⟩
     ·rw [List.length_append, List.length_singleton]; lia
     ·exact (Reps.kp (k2.trans (k3.trans (k4.trans k5))) _ _ rts).append (.cons r5 .nil)
   | false =>
     rw [if_neg Bool.false_ne_true] at q4 ⊢
     exact ⟨_, Nat.sub_lt_sub_left hlt (Nat.lt_succ_self i), rfl, hlt, by lia, kk4, ts, M4, Reps.kp (k2.trans (k3.trans k4)) _ _ rts, h4, q4⟩
  ·have e : i = J.items.length := by lia
   subst e
   refine .inl ⟨ok.stop H M kk hh st, by lia, fun p hp => ?_⟩
   exact en _ _ _ _ (k1.trans (kk.trans (Kp.new hp))) (hh.newL hp rts) a1g (fin ts M w p (hh.free hp))⟩
theorem a3G (hc : X.calm = true) (hi : HI X tg iter wi) (S : BlkScope X N' ix scope) (bt : BTg X.K ix g2 g3) (hg : ∀ C s H fp pins, PG (blk X N' scope C s H fp pins) tg g2)
  (ht : ∀ C s H fp pins, HTs (blk X N' scope C s H fp pins) ifs tt) (he : ∀ C s H fp pins, HE (blk X N' scope C s H fp pins) elt te)
  (hs : ∀ x, foldedSetIterable iter X.env x = pure x := by intro _; rfl) :
  HE X (.ListComp elt [⟨tg, iter, ifs, 0⟩] scope pos) (b1n wi ix g3 tt te) := fun ρ0 M0 Q h =>
 (b6a (tt := dTx X.K tt) (te := dEx X.K te) hc (hi.d (ρ := ρ0)) S bt.own hg (fun C s H fp pins => (ht C s H fp pins).dx) (fun C s H fp pins => (he C s H fp pins).dx) hs).imp fun σ0 H0 Q2 bb => b4r (X := X) (N' := N') bt ρ0 M0 Q h σ0 H0 Q2 bb
noncomputable def a2W (N : List Str) (ts : List T) : En := ts.map some ++ List.replicate (N.length - ts.length) none
theorem b1E {K : PySem.W.Frag} {H : Hp} {N : List Str} {vs : List V} {ts : List T} (r : Reps K H vs ts) : RhoR K (start N vs) H (a2W N ts) := by
 have hl := r.length
 refine ⟨by unfold start a2W; simp [hl], fun i t e => ?_⟩
 unfold a2W at e
 unfold start
 by_cases hi : i < ts.length
 ·rw [List.getElem?_append_left (by simpa using hi), List.getElem?_map] at e
  cases q : ts[i]? with
  | none => rw [q] at e; cases e
  | some u =>
    rw [q] at e
    cases e
    obtain ⟨v, a, b⟩ := r.get q
    refine ⟨v, ?_, b⟩
    rw [List.getElem?_append_left (by simpa [hl] using hi), List.getElem?_map, a]
    rfl
 ·rw [List.getElem?_append_right (by simpa using hi), List.getElem?_replicate] at e
  split at e <;> cases e
noncomputable def rt3 (M : MH) (Q : VK3) : VK3 := fun t M' => ∃ M0, Sub M0 M' ∧ Q t M0
end
section
variable {P : Program} {w : World} {K : PySem.W.Frag} {mg : Str → Option Value} {base : Heap}
theorem Fun.fnk {x qual : Str} {st : Stmt} {f : Addr} {fd : FuncData} {N ps : List Str} {n : Nat} {sp : Sp3} (F : Fun K x qual st f fd) (S : FnScope N ps (a0c st)) (len : ∀ ts M Q, sp ts M Q → ts.length = ps.length)
  (hbody : ∃ t : TS3, (∀ (cdv : Value) (A : Around) (outer : List Env) (s : Shared) (H : Hp) (E : XK), Room n (A.deeper (envOfC qual (a0c st) s.heap.objs.size f cdv)) →
   HSs (cxOf CX0 P w K mg base N qual (a0c st) f cdv A outer s H E).nox (a2U st) t) ∧
   ∀ ts M Q, sp ts M Q → t { nx := fun _ M' => rt3 M Q .non M', rt := rt3 M Q } (a2W N ts) M) : FnOk P w K mg base CX0 (n + 1) f fd ps (dSp K sp) := by
 obtain ⟨t, hbody, rd⟩ := hbody
 refine F.ok S (fun vs H Q E ⟨ts, M, Q3, r, _, q, _⟩ => by rw [r.length]; exact len _ _ _ q) (fun cdv A outer s H vs Q E hr ⟨ts, M, Q3, r, hh, q, en⟩ => ?_)
 refine ⟨_, hbody cdv A outer s H E hr _ _ _ (rd ts M Q3 q), b1E r, hh, ⟨?_, ?_, fun _ _ _ _ _ _ _ z => z.elim, fun _ _ _ _ _ _ _ z => z.elim⟩⟩
 ·rintro ρ' M' σ' H' k hr' hh' ⟨M0, hs, q'⟩
  exact en .non .non M0 H' k (hh'.sub hs) b1F q'
 ·rintro t' v' M' H' k hh' r' ⟨M0, hs, q'⟩
  exact en t' v' M0 H' k (hh'.sub hs) r' q'
theorem Fun.dfn {x qual : Str} {st : Stmt} {f : Addr} {fd : FuncData} {N ps : List Str} {n : Nat} {sp : Sp3} (F : Fun K x qual st f fd) (hm : mg x = some (.ref f)) (hb : a0V K fd ps []) (S : FnScope N ps (a0c st)) (len : ∀ ts M Q, sp ts M Q → ts.length = ps.length)
  (hbody : ∃ t : TS3, (∀ (cdv : Value) (A : Around) (outer : List Env) (s : Shared) (H : Hp) (E : XK), Room n (A.deeper (envOfC qual (a0c st) s.heap.objs.size f cdv)) →
   HSs (cxOf CX0 P w K mg base N qual (a0c st) f cdv A outer s H E).nox (a2U st) t) ∧
   ∀ ts M Q, sp ts M Q → t { nx := fun _ M' => rt3 M Q .non M', rt := rt3 M Q } (a2W N ts) M) : Df P w K mg base (n + 1) x ps sp :=
 ⟨f, fd, F.fnk S len hbody, hm, F.kp, hb⟩
end
theorem b4b {l : PySem.W.OpenLaw} {k : Nat} {q : Program} {loose : List Str} {XP : (Str → Option Value) → Heap → Prop} {YP : World → Heap → Prop} {d : DefRec} {K : Params → PySem.W.Frag} {sp : Sp3}
  (hn : l.most = some 63) (hdf : d.params.defaults = []) (hr : Room k callerA) (hY : ∀ (w : World) (h : Heap), YP w h → (K w.params).In h)
  (hs : ∀ (ns : List Int) M Q, ns.length ≤ 63 → Q (.bl true) M → sp [.rd (ns.map .int)] M Q)
  (F : ∀ (w : World) (mg : Str → Option Value) (fa : Addr) (h : Heap), (K w.params).In h → h.Ns mainGlobals mg → mg d.name = some (.ref fa) →
   ∃ fd : FuncData, (∀ (s : Shared) (u : Value), BindsTo s fd ⟨[u], []⟩ [("script", u)]) ∧ ∀ base : Heap, (K w.params).In base → base.Ns mainGlobals mg → FnOk l.prog w (K w.params) mg base CX0 k fa fd ["script"] (dSp (K w.params) sp)) :
  PySem.W.WalkO q loose XP YP l.row.toRowW d [] (fun f vs => PySem.call f vs) := by
 refine L2.b5j (n := 63) (k := k) (x := "script") (CX := fun _ => CX0) (sp := fun w => dSp (K w.params) sp) hn (by decide) hdf hr hY F (fun w H a ns hl hO hS => ?_) fun _ _ _ _ _ z => z
 have fz : FzL (K w.params) H a (ns.map V.int) := by
  rcases hS with (h | ⟨o, h⟩) | h
  ·rcases hO a with z | ⟨ob, xs, z⟩
   ·rw [h] at z; cases z
   ·rw [h] at z; cases z
  ·exact .inl ⟨o, h⟩
  ·exact .inr h
 refine ⟨[.rd (ns.map .int)], fun _ => none, fun t _ => t = .bl true, .cons ?_ .nil, (fun _ _ z => by cases z), hs ns _ (fun t _ => t = .bl true) hl rfl, fun t v M' H' _ _ r e => ?_⟩
 ·unfold Rep
  exact ⟨a, _, rfl, fz, Reps.of_ints ns⟩
 ·subst e
  exact a4n r
theorem a3J : ∀ {xs : List V} {us : List Value}, xs.length = us.length → (∀ (j : Nat) x, xs[j]? = some x → ∃ u, us[j]? = some u ∧ RelV x u) → Vals xs us
 | [], [], _, _ => .nil
 | [], _ :: _, h, _ => by simp at h
 | _ :: _, [], h, _ => by simp at h
 | x :: xs, u :: us, h, g => by
   refine .cons ?_ (a3J (by simpa using h) fun j y e => ?_)
   ·obtain ⟨w, e, r⟩ := g 0 x rfl
    have : u = w := by simpa using e
    subst this; exact r
   ·obtain ⟨w, e', r⟩ := g (j + 1) y (by simpa using e)
    exact ⟨w, by simpa using e', r⟩
noncomputable def a1l (lo : Int) (n : Nat) : List V := (List.range n).map fun i => V.int (lo + (i : Nat))
theorem a5k {K : PySem.W.Frag} {H : Hp} (lo : Int) (n : Nat) : Reps K H (a1l lo n) (a0P lo n) := by
 have e1 : a1l lo n = ((List.range n).map fun i => lo + ((i : Nat) : Int)).map V.int := by unfold a1l; rw [List.map_map]; rfl
 have e2 : a0P lo n = ((List.range n).map fun i => lo + ((i : Nat) : Int)).map T.int := by unfold a0P; rw [List.map_map]; rfl
 rw [e1, e2]; exact Reps.of_ints _
section
variable {X : Cx} {a b e : Expr} {es : List Expr} {ta te : TE3} {t : TA3} {pos : Pos}
noncomputable def b4g (M : MH) (x : T) : Prop := match x with
 | .adr p => (match M p with | some (.lst _) => True | _ => False)
 | _ => False
noncomputable abbrev RM3 := T → List T → MH → VK3 → Prop
noncomputable def dM (K : PySem.W.Frag) (r : RM3) : V → List V → Hp → VK → Prop := fun v vs H Q2 => ∃ x xs M Q, Rep K H v x ∧ Reps K H vs xs ∧ HR K H M ∧ r x xs M Q ∧ EndE K H Q Q2
noncomputable def MtR3 (X : Cx) (id : String) (r : RM3) : Prop := MtR X id (dM X.K r)
noncomputable def tLM3 (r : RM3) (to : TE3) (t : TA3) : TE3 := fun ρ M Q => to ρ M fun x M1 => b4g M1 x ∧ t ρ M1 fun xs M2 => r x xs M2 Q
theorem a9R {K : PySem.W.Frag} {H : Hp} {M : MH} {x : T} {v : V} (hh : HR K H M) (r : Rep K H v x) (h : b4g M x) : tyV K "list" v H := by
 unfold b4g at h
 split at h
 ·rename_i p
  split at h
  ·rename_i ts e
   obtain ⟨xs, g1, _⟩ := hh _ _ e
   obtain rfl := a0v r
   exact .inl ⟨rfl, xs, SqL.of g1⟩
  ·exact h.elim
 ·exact h.elim
theorem h_lm {o : Expr} {to : TE3} {name : Str} {apos cpos : Pos} {id : String} {r : RM3} (slot : Slot "list" name id) (hty : typeOf (.builtin id) = pure (.type "method_descriptor")) (hm : MtR3 X id r) (ho : HE X o to) (ha : HA X (e :: es) t)
  (hbase : attributeBase o name X.env (eval o X.env) = eval o X.env := by rfl)
  (hfew : ((backTo cpos (starEach (e :: es) X.env)).all (fun x => !x.1) && (backToKw cpos (keywordEach [] X.env)).all (fun x => x.1.isSome)
   && decide ((e :: es).length + ([] : List Keyword).length + (if ([] : List Keyword).isEmpty then 0 else 1) < 30)) = true := by rfl)
  (hline : (apos.endLine == cpos.line) = true := by rfl) (hs : starEach (e :: es) X.env = (false, eval e X.env) :: starEach es X.env := by rfl) (hplain : (backTo cpos (starEach es X.env)).any (·.1) = false := by rfl) :
  HE X (.Call (.Attribute o name apos) (e :: es) [] cpos) (tLM3 r to t) := fun ρ M Q h =>
 (b9I PySem.F.plainAttrs_list slot hty hm (ho.d (ρ := ρ)) (ha.d (ρ := ρ)) hbase hfew hline hs hplain).imp fun σ H Q2 ⟨hr, hh, en⟩ => ⟨M, _, h, hr, hh, fun x v M1 H1 k1 h1 r1 q1 => ⟨a9R h1 r1 q1.1, M1, _, q1.2, hr.kp k1, h1, fun ts vs M2 H2 k2 h2 r2 q2 =>
  ⟨x, ts, M2, Q, Rep.kp k2 _ _ r1, r2, h2, q2, en.kp (k1.trans k2)⟩⟩⟩
noncomputable def b3E : RM3 := fun x xs M Q => match x, xs with
 | .adr p, [y] => (match M p with | some (.lst ts) => ts.length < sizeLine ∧ Q .non (updM M p (.lst (ts ++ [y]))) | _ => False)
 | _, _ => False
theorem b0I : MtR3 X "list.append" b3E := by
 intro pins s σ H v vs u us Q2 I rv rvs h
 obtain ⟨x, xs, M, Q, r1, r2, hh, q, en⟩ := h
 unfold b3E at q
 split at q
 ·rename_i p y
  split at q
  ·rename_i ts e0
   obtain ⟨ys, g1, g2⟩ := hh _ _ e0
   obtain rfl := a0v r1
   obtain ⟨w, rfl, rw'⟩ := a1s r2
   exact b2f pins s σ H _ _ u us Q2 I rv rvs ⟨_, ys, w, rfl, rfl, g1, by rw [g2.length]; exact q.1, en _ _ _ _ (Kp.lst g1) (hh.setL g1 (g2.append (.cons rw' .nil))) b1F q.2⟩
  ·exact q.elim
 ·exact q.elim
noncomputable def a4R : List T → Option (List Int)
 | [] => some []
 | .int i :: ts => (a4R ts).map (i :: ·)
 | _ :: _ => none
theorem a4p : ∀ (ns : List Int), a4R (ns.map T.int) = some ns
 | [] => rfl
 | n :: ns => by show (a4R (ns.map T.int)).map (n :: ·) = _; rw [a4p ns]; rfl
theorem a3u : ∀ {ts : List T} {ns : List Int}, a4R ts = some ns → ts = ns.map T.int
 | [], ns, e => by unfold a4R at e; cases e; rfl
 | t :: ts, ns, e => by
   cases t with
   | int i =>
     unfold a4R at e
     cases q : a4R ts with
     | none => rw [q] at e; cases e
     | some cs => rw [q] at e; cases e; rw [a3u q]; rfl
   | _ => unfold a4R at e; cases e
noncomputable def a6E : RM3 := fun x xs M Q => match x, xs with
 | .adr p, [.int k] => (match M p with
   | some (.lst ts) => (match a4R ts with | some ns => k ∈ ns ∧ Q (.int (ns.idxOf k)) M | none => False)
   | _ => False)
 | _, _ => False
theorem b2g : MtR3 X "list.index" a6E := by
 intro pins s σ H v vs u us Q2 I rv rvs h
 obtain ⟨x, xs, M, Q, r1, r2, hh, q, en⟩ := h
 unfold a6E at q
 split at q
 ·rename_i p k
  split at q
  ·rename_i ts e0
   obtain ⟨ys, g1, g2⟩ := hh _ _ e0
   obtain rfl := a0v r1
   obtain ⟨w, rfl, rw'⟩ := a1s r2
   obtain rfl := a0p rw'
   split at q
   ·rename_i ns en'
    have et := a3u en'
    subst et
    obtain rfl := g2.ints
    cases rv
    obtain ⟨w', rfl, tk, rfl⟩ := a3z rvs
    obtain ⟨its, r', pl, hz⟩ := I.list (SqL.of g1)
    have hl := r'.length
    rw [List.length_map] at hl hz
    obtain ⟨o, n, eo, ec, edd, ed⟩ := id pl
    obtain ⟨cls, dd, data, sl⟩ := o
    simp only at ec edd ed
    subst ec edd ed
    have hk : ns.idxOf k < ns.length := List.idxOf_lt_length_iff.mpr q.1
    have item : ∀ (j : Nat) (hj : j < its.toArray.size), ∃ tk', its.toArray[j] = Value.int (ns[j]'(by rw [List.size_toArray, ← hl] at hj; exact hj)) tk' := fun j hj => by
     have hj' : j < ns.length := by rw [List.size_toArray, ← hl] at hj; exact hj
     obtain ⟨w2, e2, tk', rfl⟩ := r'.get (i := j) (x := V.int ns[j]) (by rw [List.getElem?_map, List.getElem?_eq_getElem hj'] <;> rfl)
     have : its[j]? = some its.toArray[j] := by rw [List.getElem?_eq_getElem (by rw [List.size_toArray] at hj; exact hj)] <;> simp
     rw [e2] at this
     exact ⟨tk', (Option.some.inj this).symm⟩
    let ee : Value → Bool := fun v => match v with | .int i _ => i == k | _ => false
    have hsz := sizeLine_eq
    refine call_meets PySem.F.slot_list_index ⟨_, eo, rfl⟩ PySem.F.entry_list_index (PySem.F.args_list_index_2 _ _)
     (SeqAt.list_indexAt p its.toArray n none sl (.int k tk) ee (ns.idxOf k) (by rw [List.size_toArray, ← hl]; exact hk) (by lia) ?_ ?_) ⟨eo, fun y hy => ?_, ?_⟩
    ·obtain ⟨tk', e⟩ := item (ns.idxOf k) (by rw [List.size_toArray, ← hl]; exact hk)
     rw [e]
     show (ns[ns.idxOf k] == k) = true
     simp
    ·intro m hm hlt
     obtain ⟨tk', e⟩ := item m hm
     rw [e]
     show (ns[m]'_ == k) = false
     have := List.not_of_lt_findIdx (p := (· == k)) (xs := ns) (i := m) (by simpa [List.idxOf] using hlt)
     simpa using this
    ·obtain ⟨j, hj, rfl⟩ := Array.getElem_of_mem hy
     obtain ⟨tk', e⟩ := item j hj
     rw [e]
     exact SeqAt.EqAt.int_int _ _ _ _
    ·exact ⟨.int (ns.idxOf k), H, I.tok _, ⟨_, rfl⟩, en _ _ M H Kp.refl hh a0w q.2⟩
   ·exact q.elim
  ·exact q.elim
 ·exact q.elim
theorem a4A {o : Expr} {to : TE3} {apos cpos : Pos} (ho : HE X o to) (ha : HA X (e :: es) t)
  (hbase : attributeBase o "append" X.env (eval o X.env) = eval o X.env := by rfl)
  (hfew : ((backTo cpos (starEach (e :: es) X.env)).all (fun x => !x.1) && (backToKw cpos (keywordEach [] X.env)).all (fun x => x.1.isSome)
   && decide ((e :: es).length + ([] : List Keyword).length + (if ([] : List Keyword).isEmpty then 0 else 1) < 30)) = true := by rfl)
  (hline : (apos.endLine == cpos.line) = true := by rfl) (hs : starEach (e :: es) X.env = (false, eval e X.env) :: starEach es X.env := by rfl) (hplain : (backTo cpos (starEach es X.env)).any (·.1) = false := by rfl) :
  HE X (.Call (.Attribute o "append" apos) (e :: es) [] cpos) (tLM3 b3E to t) := h_lm PySem.F.slot_list_append PySem.F.type_list_append b0I ho ha hbase hfew hline hs hplain
end
end L2
namespace LM
noncomputable def LetOK (n l : Int) : Prop := 1 ≤ (l.natAbs : Int) ∧ (l.natAbs : Int) < n
noncomputable def WordOK (n : Int) (w : List Int) : Prop := ∀ l ∈ w, LetOK n l
noncomputable def a7U (n l : Int) : Bool := decide (1 ≤ l.natAbs) && decide ((l.natAbs : Int) < n)
noncomputable def isPl (n : Int) (w : List Int) : Bool := decide (1 ≤ n) && decide (n ≤ 6) && decide (w.length ≤ 16) && w.all (a7U n)
noncomputable def PlOK (n : Int) (w : List Int) : Prop := 1 ≤ n ∧ n ≤ 6 ∧ w.length ≤ 16 ∧ WordOK n w
theorem b2s {n l : Int} : a7U n l = true ↔ LetOK n l := by
 unfold a7U LetOK
 simp only [Bool.and_eq_true, decide_eq_true_eq]
 lia
theorem PlOK.is {n : Int} {w : List Int} (h : PlOK n w) : isPl n w = true := by
 obtain ⟨h1, h2, h3, h4⟩ := h
 unfold isPl
 simp only [Bool.and_eq_true, decide_eq_true_eq, List.all_eq_true]
 exact ⟨⟨⟨h1, h2⟩, h3⟩, fun l hl => b2s.mpr (h4 l hl)⟩
theorem WordOK.nil {n : Int} : WordOK n [] := fun _ z => nomatch z
theorem WordOK.append {n : Int} {u v : List Int} (h : WordOK n u) (g : WordOK n v) : WordOK n (u ++ v) := fun l hl => (List.mem_append.mp hl).elim (h l) (g l)
theorem a0A {α β : Type} (f : α → β) {L : List α} {i : Nat} {x : α} (h : L[i]? = some x) : (L.take i).map f ++ [f x] = (L.take (i + 1)).map f := by
 rw [List.take_add_one, h]; simp
theorem a0O {α β : Type} {f : α → β} {L : List α} {i : Nat} {y : β} (h : (L.map f)[i]? = some y) : ∃ x, L[i]? = some x ∧ f x = y := by
 rw [List.getElem?_map] at h
 cases q : L[i]? with
 | none => rw [q] at h; cases h
 | some x => rw [q] at h; exact ⟨x, rfl, Option.some.inj h⟩
noncomputable def a3L (st : List Int) (l : Int) : List Int := (st.set (l.natAbs - 1) (st.getD l.natAbs 0)).set l.natAbs (st.getD (l.natAbs - 1) 0)
noncomputable def a0h (n : Int) : List Int := (List.range n.toNat).map fun i => ((i : Nat) : Int)
noncomputable def a1q (n : Int) (w : List Int) : List Int := w.foldl a3L (a0h n)
noncomputable def a0o (n : Int) (w : List Int) : List Int := (a0h n).map fun s => (((a1q n w).idxOf s : Nat) : Int)
noncomputable def a0g (p l : Int) : Int := if (l.natAbs : Int) = p then p - 1 else if (l.natAbs : Int) = p + 1 then p + 1 else p
theorem a0r (n : Int) : (a0h n).length = n.toNat := by unfold a0h; simp
theorem a1z (st : List Int) (l : Int) : (a3L st l).length = st.length := by unfold a3L; simp
theorem a4C (w : List Int) : ∀ st : List Int, (w.foldl a3L st).length = st.length := by
 induction w with
 | nil => intro st; rfl
 | cons l w ih => intro st; rw [List.foldl_cons, ih, a1z]
theorem a0X (n : Int) (w : List Int) : (a1q n w).length = n.toNat := by unfold a1q; rw [a4C, a0r]
theorem a8y {n l : Int} {w : List Int} {i : Nat} (h : w[i]? = some l) : a1q n (w.take (i + 1)) = a3L (a1q n (w.take i)) l := by
 unfold a1q
 rw [List.take_add_one, h, List.foldl_append]
 rfl
theorem a1i {n s : Int} (h : s ∈ a0h n) : 0 ≤ s ∧ s < n := by
 unfold a0h at h
 obtain ⟨i, hi, rfl⟩ := List.mem_map.mp h
 have := List.mem_range.mp hi
 lia
theorem a9T (l : List Int) (i j : Nat) (x d : Int) : (l.set i x).getD j d = if i = j ∧ j < l.length then x else l.getD j d := by
 rw [List.getD_eq_getElem?_getD, List.getElem?_set]
 by_cases h : i = j
 ·subst h
  by_cases h2 : i < l.length
  ·rw [if_pos rfl, if_pos h2, if_pos ⟨rfl, h2⟩]; rfl
  ·rw [if_pos rfl, if_neg h2, if_neg (fun q => h2 q.2)]
   rw [List.getD_eq_getElem?_getD, List.getElem?_eq_none (by lia)]
 ·rw [if_neg h, if_neg (fun q => h q.1), List.getD_eq_getElem?_getD]
theorem b1r (st : List Int) (l : Int) (h : LetOK (st.length : Int) l) (k : Nat) :
  (a3L st l).getD k 0 = if k = l.natAbs then st.getD (l.natAbs - 1) 0 else if k = l.natAbs - 1 then st.getD l.natAbs 0 else st.getD k 0 := by
 unfold LetOK at h
 unfold a3L
 rw [a9T, a9T, List.length_set]
 by_cases h1 : k = l.natAbs
 ·subst h1
  rw [if_pos ⟨rfl, by lia⟩, if_pos rfl]
 ·rw [if_neg (fun q => h1 q.1.symm), if_neg h1]
  by_cases h2 : k = l.natAbs - 1
  ·subst h2
   rw [if_pos ⟨rfl, by lia⟩, if_pos rfl]
  ·rw [if_neg (fun q => h2 q.1.symm), if_neg h2]
theorem a9a (st : List Int) (l : Int) (h : LetOK (st.length : Int) l) (p s : Int) (h0 : 0 ≤ p) (h1 : p < st.length) (e : st.getD p.toNat 0 = s) :
  0 ≤ a0g p l ∧ a0g p l < st.length ∧ (a3L st l).getD (a0g p l).toNat 0 = s := by
 have hl := h
 unfold LetOK at hl
 rw [b1r st l h]
 unfold a0g
 by_cases h2 : (l.natAbs : Int) = p
 ·rw [if_pos h2]
  refine ⟨by lia, by lia, ?_⟩
  have e1 : (p - 1).toNat = l.natAbs - 1 := by lia
  have e2 : p.toNat = l.natAbs := by lia
  rw [e1, if_neg (by lia), if_pos rfl, ← e2]; exact e
 ·rw [if_neg h2]
  by_cases h3 : (l.natAbs : Int) = p + 1
  ·rw [if_pos h3]
   refine ⟨by lia, by lia, ?_⟩
   have e1 : (p + 1).toNat = l.natAbs := by lia
   have e2 : p.toNat = l.natAbs - 1 := by lia
   rw [e1, if_pos rfl, ← e2]; exact e
  ·rw [if_neg h3]
   refine ⟨h0, h1, ?_⟩
   rw [if_neg (by lia), if_neg (by lia)]; exact e
theorem b0Q (w : List Int) : ∀ (st : List Int) (p s : Int), WordOK (st.length : Int) w → 0 ≤ p → p < st.length → st.getD p.toNat 0 = s →
  0 ≤ w.foldl a0g p ∧ w.foldl a0g p < st.length ∧ (w.foldl a3L st).getD (w.foldl a0g p).toNat 0 = s := by
 induction w with
 | nil => intro st p s _ h0 h1 e; exact ⟨h0, h1, e⟩
 | cons l w ih =>
   intro st p s hw h0 h1 e
   obtain ⟨a, b, c⟩ := a9a st l (hw l List.mem_cons_self) p s h0 h1 e
   rw [List.foldl_cons, List.foldl_cons]
   have := ih (a3L st l) (a0g p l) s (by rw [a1z]; exact fun x hx => hw x (List.mem_cons_of_mem _ hx)) a (by rw [a1z]; exact b) c
   rw [a1z] at this
   exact this
theorem b0x (n : Int) (s : Int) (h0 : 0 ≤ s) (h1 : s < n) : (a0h n).getD s.toNat 0 = s := by
 unfold a0h
 rw [List.getD_eq_getElem?_getD, List.getElem?_map, List.getElem?_range (by lia)]
 show ((s.toNat : Nat) : Int) = s
 lia
theorem a4K (n : Int) (w : List Int) (hw : WordOK n w) (s : Int) (h0 : 0 ≤ s) (h1 : s < n) :
  0 ≤ w.foldl a0g s ∧ w.foldl a0g s < n ∧ (a1q n w).getD (w.foldl a0g s).toNat 0 = s := by
 have hl : ((a0h n).length : Int) = n := by rw [a0r]; lia
 have := b0Q w (a0h n) s s (by rw [hl]; exact hw) h0 (by rw [hl]; exact h1) (b0x n s h0 h1)
 rw [hl] at this
 exact this
theorem b4k {l : List Int} {k : Nat} (h : k < l.length) : l.getD k 0 ∈ l := by
 rw [List.getD_eq_getElem?_getD, List.getElem?_eq_getElem h]
 exact List.getElem_mem h
theorem b1u (n : Int) (w : List Int) (hw : WordOK n w) (s : Int) (h0 : 0 ≤ s) (h1 : s < n) : s ∈ a1q n w := by
 obtain ⟨a, b, c⟩ := a4K n w hw s h0 h1
 have := b4k (l := a1q n w) (k := (w.foldl a0g s).toNat) (by rw [a0X]; lia)
 rw [c] at this; exact this
theorem a1C (n : Int) : (a0h n).Nodup := by
 unfold a0h
 refine List.Pairwise.map _ (fun (a b : Nat) (h : a ≠ b) => ?_) List.nodup_range
 show (a : Int) ≠ (b : Int)
 lia
theorem b0r (st : List Int) (l : Int) (h : LetOK (st.length : Int) l) : (a3L st l).Perm st := by
 unfold LetOK at h
 unfold a3L
 have ha : l.natAbs - 1 < st.length := by lia
 have hb : l.natAbs < st.length := by lia
 have e1 : st.getD l.natAbs 0 = st[l.natAbs] := by rw [List.getD_eq_getElem?_getD, List.getElem?_eq_getElem hb]; rfl
 have e2 : st.getD (l.natAbs - 1) 0 = st[l.natAbs - 1] := by rw [List.getD_eq_getElem?_getD, List.getElem?_eq_getElem ha]; rfl
 rw [e1, e2]
 exact List.set_set_perm ha hb
theorem a5w (w : List Int) : ∀ st : List Int, WordOK (st.length : Int) w → (w.foldl a3L st).Perm st := by
 induction w with
 | nil => intro st _; exact .refl _
 | cons l w ih =>
   intro st hw
   rw [List.foldl_cons]
   exact (ih _ (by rw [a1z]; exact fun x hx => hw x (List.mem_cons_of_mem _ hx))).trans (b0r st l (hw l List.mem_cons_self))
theorem a4t (n : Int) (w : List Int) (h0 : 0 ≤ n) (hw : WordOK n w) : (a1q n w).Perm (a0h n) := by
 refine a5w w (a0h n) ?_
 have e : ((n.toNat : Nat) : Int) = n := by lia
 rw [a0r, e]; exact hw
theorem a5O {l : List Int} (nd : l.Nodup) {k : Nat} (hk : k < l.length) (x : Int) (e : l.getD k 0 = x) : l.idxOf x = k := by
 rw [List.getD_eq_getElem?_getD, List.getElem?_eq_getElem hk] at e
 have e' : l[k] = x := e
 subst e'
 exact nd.idxOf_getElem k hk
theorem a6g (n : Int) (w : List Int) (hw : WordOK n w) (s : Int) (h0 : 0 ≤ s) (h1 : s < n) : (((a1q n w).idxOf s : Nat) : Int) = w.foldl a0g s := by
 obtain ⟨a, b, c⟩ := a4K n w hw s h0 h1
 have nd : (a1q n w).Nodup := (a4t n w (by lia) hw).nodup_iff.mpr (a1C n)
 rw [a5O nd (k := (w.foldl a0g s).toNat) (by rw [a0X]; lia) s c]
 lia
theorem b0C (n : Int) (w : List Int) (hw : WordOK n w) (s : Int) (h0 : 0 ≤ s) (h1 : s < n) : (a0o n w).getD s.toNat 0 = w.foldl a0g s := by
 unfold a0o
 have e : (a0h n)[s.toNat]? = some s := by
  unfold a0h
  rw [List.getElem?_map, List.getElem?_range (by lia)]
  show some ((s.toNat : Nat) : Int) = some s
  congr 1; lia
 rw [List.getD_eq_getElem?_getD, List.getElem?_map, e]
 exact a6g n w hw s h0 h1
theorem a2R (n : Int) (w : List Int) : (a0o n w).length = n.toNat := by unfold a0o; rw [List.length_map, a0r]
noncomputable def b5d (w : List Int) : List Int := w.reverse.map fun l => -l
theorem LetOK.neg {n l : Int} (h : LetOK n l) : LetOK n (-l) := by unfold LetOK at *; lia
theorem WordOK.map {n : Int} {w : List Int} {f : Int → Int} (hf : ∀ l, LetOK n l → LetOK n (f l)) (h : WordOK n w) : WordOK n (w.map f) := fun l hl => by
 obtain ⟨k, hk, rfl⟩ := List.mem_map.mp hl
 exact hf k (h k hk)
theorem PlOK.map {n : Int} {w : List Int} {f : Int → Int} (hf : ∀ l, LetOK n l → LetOK n (f l)) (h : PlOK n w) : PlOK n (w.map f) := ⟨h.1, h.2.1, by rw [List.length_map]; exact h.2.2.1, h.2.2.2.map hf⟩
theorem a9b (p l : Int) : a0g p (-l) = a0g p l := by unfold a0g; rw [Int.natAbs_neg]
theorem a7a (p l : Int) : a0g (a0g p l) l = p := by unfold a0g; split <;> split <;> (try split) <;> lia
theorem a6Z {n p l : Int} (h : LetOK n l) (h0 : 0 ≤ p) (h1 : p < n) : 0 ≤ a0g p l ∧ a0g p l < n := by
 unfold LetOK at h; unfold a0g; split <;> (try split) <;> lia
noncomputable def folL (w : List Int) (p : Int) : Int := w.foldl a0g p
theorem folL_append (u v : List Int) (p : Int) : folL (u ++ v) p = folL v (folL u p) := by unfold folL; rw [List.foldl_append]
theorem b0R {n : Int} {w : List Int} : ∀ {p : Int}, WordOK n w → 0 ≤ p → p < n → 0 ≤ folL w p ∧ folL w p < n := by
 induction w with
 | nil => intro p _ h0 h1; exact ⟨h0, h1⟩
 | cons l w ih =>
   intro p hw h0 h1
   have := a6Z (hw l (List.mem_cons_self ..)) h0 h1
   exact ih (fun k hk => hw k (List.mem_cons_of_mem _ hk)) this.1 this.2
theorem b4n (w : List Int) : ∀ p, folL (w.map fun l => -l) p = folL w p := by
 unfold folL
 induction w with
 | nil => intro p; rfl
 | cons l w ih => intro p; rw [List.map_cons, List.foldl_cons, List.foldl_cons, a9b, ih]
theorem a8a (w : List Int) : ∀ p, folL w.reverse (folL w p) = p := by
 induction w with
 | nil => intro p; rfl
 | cons l w ih =>
   intro p
   rw [List.reverse_cons, folL_append]
   show folL [l] (folL w.reverse (folL w (a0g p l))) = p
   rw [ih]
   exact a7a p l
theorem a3v (w : List Int) (p : Int) : folL (b5d w) (folL w p) = p := by unfold b5d; rw [b4n, a8a]
theorem a4u {n s : Int} (h0 : 0 ≤ s) (h1 : s < n) : s ∈ a0h n := by
 unfold a0h
 exact List.mem_map.mpr ⟨s.toNat, List.mem_range.mpr (by lia), by lia⟩
theorem a0z (n : Int) (w : List Int) (hw : WordOK n w) : a0o n w = (a0h n).map (folL w) := by
 unfold a0o
 refine List.map_congr_left fun s hs => ?_
 obtain ⟨h0, h1⟩ := a1i hs
 exact a6g n w hw s h0 h1
theorem a5Z {n p : Int} {w : List Int} (hw : WordOK n w) (h : p ∈ a0o n w) : 0 ≤ p ∧ p < n := by
 rw [a0z n w hw] at h
 obtain ⟨s, hs, rfl⟩ := List.mem_map.mp h
 obtain ⟨h0, h1⟩ := a1i hs
 exact b0R hw h0 h1
end LM
namespace L2
open PySem PySem.Spec PyProof.Rows LM
theorem a8x (x : Str) (N : List Str) (t : T) (ts : List T) : a2W (x :: N) (t :: ts) = some t :: a2W N ts := by
 unfold a2W
 simp only [List.map_cons, List.length_cons, Nat.add_sub_add_right, List.cons_append]
theorem a8w (x : Str) (N : List Str) : a2W (x :: N) [] = none :: a2W N [] := by
 unfold a2W
 simp only [List.map_nil, List.length_cons, List.length_nil, Nat.sub_zero, List.nil_append, List.replicate_succ]
theorem b0s : a2W [] [] = [] := rfl
theorem b0B (ix : List (Option Nat)) (ρ : En) : a6H (none :: ix) ρ = none :: a6H ix ρ := rfl
theorem b0A (j : Nat) (ix : List (Option Nat)) (ρ : En) : a6H (some j :: ix) ρ = (ρ[j]?).join :: a6H ix ρ := rfl
theorem b1L (ρ : En) : a6H [] ρ = [] := rfl
theorem b2o {α : Type} (a : Option α) : (some a).join = a := rfl
theorem a0n {M : MH} {Q : VK3} {t : T} {M' : MH} (h : Q t M') : rt3 M Q t M' := ⟨M', Sub.refl, h⟩
theorem c0p {α : Type} (x : α) (xs : List α) : atI (x :: xs) 0 = some x := by
 have := a3W (xs := x :: xs) (j := 0) (v := x) rfl
 simpa using this
theorem c0o {α : Type} (x y : α) (xs : List α) : atI (x :: y :: xs) 1 = some y := by
 have := a3W (xs := x :: y :: xs) (j := 1) (v := y) rfl
 simpa using this
theorem c0n {α : Type} (x y z : α) (xs : List α) : atI (x :: y :: z :: xs) 2 = some z := by
 have := a3W (xs := x :: y :: z :: xs) (j := 2) (v := z) rfl
 simpa using this
theorem b9T (n : Nat) : ixN (n + 1) 0 = some 0 := by
 unfold ixN
 rw [if_pos (by lia), if_pos (by lia)]; rfl
theorem b1f {M : MH} {a : Addr} {o u : MO} : updM (updM M a o) a u = updM M a u := by
 funext b; unfold updM; split <;> rfl
theorem a5b (ns : List Int) (i : Int) (h0 : 0 ≤ i) (h : i < ns.length) : atI (ns.map T.int) i = some (.int (ns.getD i.toNat 0)) := by
 have e : i = ((i.toNat : Nat) : Int) := by lia
 have hl : i.toNat < ns.length := by lia
 have := a3W (xs := ns.map T.int) (j := i.toNat) (v := .int (ns.getD i.toNat 0)) (by
  rw [List.getElem?_map, List.getElem?_eq_getElem hl]
  simp [List.getD, List.getElem?_eq_getElem hl])
 rw [← e] at this
 exact this
theorem a8k (bs : List Bool) : a7j (bs.map T.bl) = some bs := by
 induction bs with
 | nil => rfl
 | cons b bs ih => show (a7j (bs.map T.bl)).map (b :: ·) = _; rw [ih]; rfl
theorem a8I (ns : List Int) : a1h (ns.map T.int) = true := by
 induction ns with
 | nil => rfl
 | cons n ns ih => show (a0t (.int n) && a1h (ns.map T.int)) = true; rw [ih]; rfl
theorem b0W (ns : List Int) : a3R (ns.map T.int) = 0 := by
 induction ns with
 | nil => rfl
 | cons n ns ih => show max (depT (.int n)) (a3R (ns.map T.int)) = 0; rw [ih]; rfl
theorem b2I (a b : List Int) : eqTs (a.map T.int) (b.map T.int) = decide (a = b) := by
 induction a generalizing b with
 | nil => cases b <;> simp [eqTs]
 | cons x a ih =>
   cases b with
   | nil => simp [eqTs]
   | cons y b =>
     show (eqT (.int x) (.int y) && eqTs (a.map T.int) (b.map T.int)) = _
     rw [ih]
     have : eqT (.int x) (.int y) = (x == y) := rfl
     rw [this]
     by_cases h1 : x = y <;> by_cases h2 : a = b <;> simp [h1, h2]
theorem b6D (a b : List T) : eqT (.tup a) (.tup b) = eqTs a b := rfl
theorem a7b (a b : Int) : eqT (.int a) (.int b) = decide (a = b) := by
 show (a == b) = _
 by_cases h : a = b <;> simp [h]
theorem b2J (x y : T) (a b : List T) : eqTs (x :: a) (y :: b) = (eqT x y && eqTs a b) := rfl
theorem b4o : eqTs [] [] = true := rfl
theorem a5n (x : T) (a : List T) : a1h (x :: a) = (a0t x && a1h a) := rfl
theorem b0y : a1h [] = true := rfl
theorem a3e (i : Int) : a0t (.int i) = true := rfl
theorem b3F (i : Bool) : a0t (.bl i) = true := rfl
theorem a5o (i : List T) : a0t (.tup i) = a1h i := rfl
theorem a3x (i : Int) : depT (.int i) = 0 := rfl
theorem b6G (i : Bool) : depT (.bl i) = 0 := rfl
theorem b0d (i : List T) : depT (.tup i) = a3R i + 1 := rfl
theorem a6k (x : T) (a : List T) : a3R (x :: a) = max (depT x) (a3R a) := rfl
theorem b2P : a3R [] = 0 := rfl
theorem Sub.set {M M' : MH} {p : Addr} {o u : MO} (h : Sub (updM M p o) M') : Sub (updM M p u) (updM M' p u) := fun a v e => by
 by_cases ha : a = p
 ·subst ha; rw [a0d] at e ⊢; exact e
 ·rw [a0x ha] at e ⊢
  exact h a v (by rw [a0x ha]; exact e)
theorem Sub.newr {M M' : MH} {r : Addr} {o : MO} (h : Sub M M') (hr : M' r = none) : Sub M (updM M' r o) := h.trans (Sub.new hr)
theorem a1Z {M : MH} {Q : VK3} {t : T} {M0 M' : MH} (h : Q t M0) (s : Sub M0 M') : rt3 M Q t M' := ⟨M0, s, h⟩
theorem b6s {n : Nat} {k : Int} (h0 : 0 ≤ k) (h : k < n) : ixN n k = some k.toNat := by
 unfold ixN
 rw [if_pos h0, if_pos h]
theorem a5W (n : Nat) : a0P 0 n = ((List.range n).map fun i => ((i : Nat) : Int)).map T.int := by
 unfold a0P
 rw [List.map_map]
 congr 1
 funext i
 simp
theorem b5C (n : Int) : a0P 0 n.toNat = (a0h n).map T.int := a5W _
theorem a1m (a : Int) (n : Nat) : (a0P a n).length = n := by unfold a0P; simp
theorem Sub.updF {M M' : MH} {p : Addr} {o : MO} (h : Sub M M') (hp : M p = none) : Sub M (updM M' p o) := fun a v e => by
 have ha : a ≠ p := by rintro rfl; rw [hp] at e; cases e
 rw [a0x ha]; exact h a v e
end L2
namespace L2
open PySem PySem.Spec PyProof.Rows
theorem a7H : typeLookup (.type "tuple") "__reversed__" = pure none := by rw [typeLookup_type, builtinLookup_eq_fast]; kernel_rfl
theorem a5I : isSubtype (.type "tuple") (.type "dict") = pure false := by rw [isSubtype_type]; kernel_rfl
noncomputable def revT (t : Addr) (i : Int) : Obj := { cls := .type "reversed", data := .fields #[.ref t, rawInt i] }
section
variable {prog : Program} {w : World} {A : Around} {E : Value → Shared → Prop} {s : Shared}
theorem a7e {t : Addr} {items : Array Value} {Q₁ : Value → Shared → Prop} (ht : IsTup s.heap t items) (hz : items.size ≤ sizeLine)
  (h : ∀ h' tk, (∀ b o, s.heap.get? b = some o → h'.get? b = some o) → h'.get? s.heap.objs.size = some (revT t ((items.size : Int) - 1)) → Q₁ (.ref s.heap.objs.size) { s with heap := h', toks := tk }) :
  codeAny (model prog w) A (.call (.builtin "reversed.__new__") ⟨[.type "reversed", .ref t], []⟩) (wants Q₁ E) s := by
 refine codeAny_of_tree ?_
 show wpAny _ A.in1 (do checkBuiltinCall "reversed.__new__" ⟨[.type "reversed", .ref t], []⟩; again (.builtin "reversed.__new__" ⟨[.type "reversed", .ref t], []⟩)) _ _ s
 refine wpAny_bind (wpAny_of_eq (F.newCall_reversed_1 _) (wpAny_pure ⟨plainId_quiet F.plain_reversed_new _, codeAny_builtin F.entry_reversed_new ?_⟩))
 rw [Around.under_plainId F.plain_reversed_new _]
 unfold Builtin.«reversed.__new__»
 refine wpAny_bind (wpAny_of_eq (newClass_reversed _) ?_)
 try dsimp only
 refine wpAny_bind (wpAny_of_eq (a := ()) (by first | rfl | kernel_rfl) ?_)
 refine wpAny_bind (wpAny_of_eq (a := ()) (by first | rfl | kernel_rfl) ?_)
 try dsimp only
 refine wpAny_bind (wpAny_specialOf ht.typeIs a7H ?_)
 try dsimp only
 refine wpAny_bind (m := (do
  if ← isInstance (.ref t) (.type "dict") then return false
  match ← specialOf (.ref t) "__getitem__" with
  | none => return false
  | some (.builtin id) =>
    if ["tuple.__getitem__", "str.__getitem__", "bytes.__getitem__", "bytearray.__getitem__", "memoryview.__getitem__", "numpy.ndarray.__getitem__", "sqlite3.Row.__getitem__"].contains id then return true
    if id == "sqlite3.Blob.__getitem__" then return false
    unsupported "reversed.__new__:is-it-a-sequence"
  | some _ => return true)) ?_
 refine wpAny_bind (wpAny_isInstance ht.typeIs a5I ?_)
 try dsimp only
 rw [if_neg Bool.false_ne_true]
 refine wpAny_bind (wpAny_specialOf ht.typeIs slot_tuple_getitem.lookup ?_)
 try dsimp only
 rw [if_pos (by decide)]
 refine wpAny_pure ?_
 rw [if_neg (by decide)]
 have hn := a4m
 refine wpAny_bind (len_tuple ht (by lia) ?_)
 refine wpAny_bind (wpAny_of_eq (a := some (items.size : Int)) (by rfl) ?_)
 dsimp only
 refine wpAny_bind ?_
 unfold Builtin.SmallTypes.newRecord
 dsimp only
 refine wpAny_newObj_type ?_
 exact wpAny_pure (h _ _ (fun b o e => Heap.get?_push_of_some _ e) (Heap.get?_push_size _ rfl))
theorem a6w : Slot "reversed" "__init__" "object.__init__" :=
 .of (owner := "object") (n := "__init__") (by rw [typeLookup_type, builtinLookup_eq_fast]; kernel_rfl) (by decide +kernel) (by decide +kernel) (by decide +kernel)
  (by first | exact .inl (by decide +kernel) | exact .inr (by decide +kernel)) (by rw [isSubtype_type]; kernel_rfl)
theorem a1j : Slot "reversed" "__next__" "reversed.__next__" :=
 .of (owner := "reversed") (n := "__next__") (by rw [typeLookup_type, builtinLookup_eq_fast]; kernel_rfl) (by decide +kernel) (by decide +kernel) (by decide +kernel)
  (by first | exact .inl (by decide +kernel) | exact .inr (by decide +kernel)) (by rw [isSubtype_type]; kernel_rfl)
theorem a2f : TypeCalled "reversed" "reversed.__new__" "object.__init__" :=
 ⟨by decide +kernel, by decide +kernel, ⟨_, _, F.mro_reversed⟩, F.made_reversed, F.plain_reversed_new, F.sub_reversed_self, a6w⟩
theorem a5R {t : Addr} {items : Array Value} {Q : Value → Shared → Prop} (ht : IsTup s.heap t items) (hz : items.size ≤ sizeLine)
  (h : ∀ h' tk, (∀ b o, s.heap.get? b = some o → h'.get? b = some o) → h'.get? s.heap.objs.size = some (revT t ((items.size : Int) - 1)) → Q (.ref s.heap.objs.size) { s with heap := h', toks := tk }) :
  wpAny (model prog w) A (call (.type "reversed") [.ref t]) Q E s := by
 refine callType_codes (Q₁ := fun obj s₁ => s₁.TypeIs obj "reversed" ∧ Q obj s₁) a2f (F.typeCall_reversed_1 _) F.entry_object_init (a7e ht hz fun h' tk k e => ⟨⟨_, e, rfl⟩, h h' tk k e⟩) fun obj s₁ h₁ => ?_
 exact ⟨h₁.1, F.args_object_init_2 obj _, object_init_meets a2f.init.lookup a2f.made (by decide) prog w A.in1 _ s₁ ⟨h₁.1, rfl, h₁.2⟩⟩
theorem a4d : Slot "reversed" "__iter__" "reversed.__iter__" :=
 .of (owner := "reversed") (n := "__iter__") (by rw [typeLookup_type, builtinLookup_eq_fast]; kernel_rfl) (by decide +kernel) (by decide +kernel) (by decide +kernel)
  (by first | exact .inl (by decide +kernel) | exact .inr (by decide +kernel)) (by rw [isSubtype_type]; kernel_rfl)
theorem a5P : entryFor table "reversed.__iter__" = some Builtin.«dict_keyiterator.__iter__» :=
 entryFor_alias (id' := "dict_keyiterator.__iter__") (by kernel_rfl) (by first | rfl | decide +kernel | (unfold String.splitOn; simp +decide [String.splitOnAux])) (by decide +kernel) (by kernel_rfl)
theorem a3H : entryFor table "reversed.__next__" = some Builtin.«reversed.__next__» := entryFor_of_tree (by kernel_rfl)
theorem a7B : Manifest.owners.lookup (String.ofList ['d', 'e', 's', 'r', 'e', 'v', 'e', 'r'].reverse) = some Manifest.sig_reversed := by kernel_rfl
theorem a3k (a : Value) : argsOk "reversed.__next__" ⟨[a], []⟩ := by
 unfold argsOk; rw [signature?_of (id := "reversed.__next__") (n := ['_', '_', 't', 'x', 'e', 'n', '_', '_']) (o := ['d', 'e', 's', 'r', 'e', 'v', 'e', 'r']) (by kernel_rfl) a7B]; kernel_rfl
theorem a5G (a : Value) : argsOk "reversed.__iter__" ⟨[a], []⟩ := by
 unfold argsOk; rw [signature?_of (id := "reversed.__iter__") (n := ['_', '_', 'r', 'e', 't', 'i', '_', '_']) (o := ['d', 'e', 's', 'r', 'e', 'v', 'e', 'r']) (by kernel_rfl) a7B]; kernel_rfl
noncomputable def b1b (h : Heap) (a t : Addr) (i : Int) : Prop := h.get? a = some (revT t i)
theorem a2O {a t : Addr} {i : Int} (x : b1b s.heap a t i) : s.TypeIs (.ref a) "reversed" := ⟨_, x, rfl⟩
theorem a6U {it t : Addr} {i : Nat} {items : Array Value} {x : Value} {Q : Option Value → Shared → Prop} (hit : b1b s.heap it t (i : Int)) (ht : IsTup s.heap t items) (hx : items[i]? = some x) (hz : items.size ≤ sizeLine)
  (hQ : ∀ h' tk, b1b h' it t ((i : Int) - 1) → Heap.SameBut it s.heap h' → Q (some x) { s with heap := h', toks := tk }) : wpAny (model prog w) A (pyNext (.ref it)) Q E s := by
 have hn := a4m
 have hi : i < items.size := (Array.getElem?_eq_some_iff.mp hx).1
 have ho : s.heap.get? it = some (revT t (i : Int)) := hit
 unfold pyNext
 refine wpAny_bind (wpAny_attempt (wpAny_callSpecial?_slot (name := Str.ofString "__next__") (a2O hit) a1j
  (wpAny_call_entry a1j (a2O hit) a3H ?_ (a3k _))))
 unfold Builtin.«reversed.__next__»
 refine wpAny_bind (wpAny_of_eq (a := (Value.ref it, [])) rfl ?_)
 try dsimp only
 refine wpAny_bind (wpAny_field ho rfl (x := .ref t) rfl ?_)
 refine wpAny_bind (wpAny_field ho rfl (x := rawInt (i : Int)) rfl ?_)
 show wpAny _ _ (if (i : Int) < 0 then _ else _) _ _ s
 rw [if_neg (by lia)]
 refine wpAny_bind (wpAny_specialOf ht.typeIs slot_tuple_getitem.lookup ?_)
 try dsimp only
 rw [if_neg (by decide)]
 refine wpAny_bind (wpAny_mkInt ?_)
 refine wpAny_bind (wpAny_attempt (getItem_tuple (j := i) ht (by lia) (by lia) (seqIndex_of (by lia) (by lia)) hx ?_))
 try dsimp only
 refine wpAny_bind (wpAny_field (s := { s with toks := s.toks + 1 }) ho rfl (x := rawInt (i : Int)) rfl ?_)
 show wpAny _ _ (setField (.ref it) 1 (rawInt ((i : Int) - 1)) >>= fun _ => ret x) _ _ _
 refine wpAny_bind (wpAny_setField (s := { s with toks := s.toks + 1 }) ho rfl (by simp) ?_)
 refine wpAny_pure ⟨x, rfl, wpAny_pure (hQ _ _ ?_ (Heap.SameBut.update ..))⟩
 show Heap.get? _ it = _
 rw [Heap.get?_update_self _ ho (by simp [revT, Obj.mapFields, Obj.isFreed])]
 simp [revT, Obj.mapFields]
theorem b3s {it t : Addr} {Q : Option Value → Shared → Prop} (hh : A.handled = none) (hit : b1b s.heap it t (-1))
  (hQ : ∀ h', Heap.ExtBut it s.heap h' → Q none { s with heap := h' }) : wpAny (model prog w) A (pyNext (.ref it)) Q E s := by
 have ho : s.heap.get? it = some (revT t (-1)) := hit
 unfold pyNext
 refine wpAny_bind (wpAny_attempt (wpAny_callSpecial?_slot (name := Str.ofString "__next__") (a2O hit) a1j
  (wpAny_call_entry a1j (a2O hit) a3H ?_ (a3k _))))
 unfold Builtin.«reversed.__next__»
 refine wpAny_bind (wpAny_of_eq (a := (Value.ref it, [])) rfl ?_)
 try dsimp only
 refine wpAny_bind (wpAny_field ho rfl (x := .ref t) rfl ?_)
 refine wpAny_bind (wpAny_field ho rfl (x := rawInt (-1)) rfl ?_)
 show wpAny _ _ (if (-1 : Int) < 0 then _ else _) _ _ s
 rw [if_pos (by decide)]
 refine wpAny_bind (wpAny_rule ?_)
 refine wpAny_bind (wpAny_bind (m := setField (.ref it) 1 (rawInt (-1))) (f := fun _ => setField (.ref it) 0 .none) ?_)
 refine wpAny_setField_rec ho (by simp) fun h1 e1 b1 => ?_
 refine wpAny_setField_rec (s := { s with heap := h1 }) e1 (by simp) fun h2 e2 b2 => ?_
 unfold Builtin.SmallTypes.stopIteration
 refine wpAny_bind ?_
 refine wpAny_bind ?_
 simp only [newExc, newTuple]
 refine wpAny_bind (wpAny_newObj_type ?_ (by size_fits))
 refine wpAny_bind (m := firstArgMember _ _) (wpAny_of_eq (a := Value.none) (by first | rfl | (simp only [firstArgMember]; rfl)) ?_)
 refine wpAny_newObj_type ?_ (by size_fits)
 simp only [raiseNew]
 refine wpAny_bind (wpAny_handled ?_)
 first | rw [show A.in1.handled = none from hh] | rw [hh]
 refine wpAny_bind (wpAny_pure (wpAny_throw ?_))
 refine wpAny_bind (wpAny_isInstance (T := "StopIteration") (b := true) ⟨_, Heap.get?_push_size _ rfl, rfl⟩ isSubtype_stop ?_)
 exact wpAny_pure (hQ _ (((b1.extBut.trans b2.extBut).push _).push _))
theorem a9P {it t : Addr} {i : Int} {Q : Value → Shared → Prop} (hit : b1b s.heap it t i) (h : Q (.ref it) s) : wpAny (model prog w) A (pyIter (.ref it)) Q E s := by
 refine wpAny_pyIter_slot (a2O hit) a4d (wpAny_call_entry a4d (a2O hit) a5P ?_ (a5G _))
 show wpAny _ _ (ret (.ref it)) _ _ s
 exact wpAny_pure ⟨_, rfl, "reversed", _, a2O hit, a1j.lookup, h⟩
end
noncomputable def Ittr (K : PySem.W.Frag) (a : Addr) (xs : List V) : It :=
 ⟨fun i H => SqT K H a xs ∧ i < xs.length, fun i H x H' => H' = H ∧ xs.reverse[i]? = some x, fun i H => SqT K H a xs ∧ i = xs.length⟩
theorem b3q {P : Program} {w : World} {K : PySem.W.Frag} {tg : Expr} (a it : Addr) (xs : List V) : Turn P w K tg (Ittr K a xs) [it] it (fun i h => b1b h it a ((xs.length : Int) - 1 - (i : Int))) where
 mem := by simp
 obj := fun i h st b hb => by
  have e : b = it := by simpa using hb
  subst e
  exact ⟨_, st, fun v z => by
   have z' : Data.fields _ = Data.cell v := z
   cases z'⟩
 keep := fun i h h' st k => k it (by simp) _ st
 item := by
  intro X hP hw hK hc i pins s σ H E I hf st hg
  subst hP hw hK
  obtain ⟨hq, hi⟩ := hg
  obtain ⟨its, rv, p, hz⟩ := I.tuple hq
  have hl := rv.length
  obtain ⟨x, hx'⟩ : ∃ x, xs[xs.length - 1 - i]? = some x := ⟨_, List.getElem?_eq_getElem (by lia)⟩
  obtain ⟨u, hu, ru⟩ := rv.get hx'
  obtain ⟨f0, f1, f2, f3, f4, f5⟩ := hf it (by simp)
  have e1 : (xs.length : Int) - 1 - (i : Int) = ((xs.length - 1 - i : Nat) : Int) := by lia
  rw [e1] at st
  refine a6U st p (x := u) (by simpa using hu) (by simp; lia) fun h' tk st' sb => ?_
  have I1 : Inv X pins σ H { s with heap := h', toks := tk } := I.turned (fun b o hb e => (sb.2 b hb).trans e) f0 f1 f3 f4 f5
  have e2 : ((xs.length - 1 - i : Nat) : Int) - 1 = (xs.length : Int) - 1 - ((i + 1 : Nat) : Int) := by lia
  rw [e2] at st'
  exact ⟨u, rfl, b2C (s := { s with heap := h', toks := tk }) (n := "reversed") st' rfl rfl (by decide) ⟨x, H, I1, ru, ⟨rfl, by rw [List.getElem?_reverse hi]; exact hx'⟩, st', fun b hb => (hf b hb).1⟩⟩
 done := by
  intro X hP hw hK hc i pins s σ H E I hf st hg
  subst hP hw hK
  obtain ⟨hq, rfl⟩ := hg
  obtain ⟨f0, f1, f2, f3, f4, f5⟩ := hf it (by simp)
  have e1 : (xs.length : Int) - 1 - (xs.length : Int) = -1 := by lia
  rw [e1] at st
  exact b3s (I.ok.hd hc) st fun h' eb => ⟨rfl, I.turned (t' := s.toks) (fun b o hb e => eb b o hb e) f0 f1 f3 f4 f5⟩
 self := fun _ _ _ _ _ st h => a9P st h
section
variable {X : Cx}
theorem b4e {K : PySem.W.Frag} {H : Hp} {a : Addr} {xs : List V} {ts : List T} (h : SqT K H a xs) (r : Reps K H xs ts) : ItOk K H (Ittr K a xs) ⟨ts.reverse, fun _ => True⟩ := by
 refine ⟨fun H' M' k hh _ => ⟨k.tup _ _ h, by show ts.reverse.length = _; rw [List.length_reverse, r.length]⟩, fun i x H' M' e k hh _ => ?_⟩
 have e' : ts.reverse[i]? = some x := e
 have hi : i < ts.length := by have := (List.getElem?_eq_some_iff.mp e').1; simpa using this
 rw [List.getElem?_reverse hi] at e'
 obtain ⟨v, e1, r1⟩ := r.get e'
 have hl := r.length
 have e2 : xs.reverse[i]? = some v := by rw [List.getElem?_reverse (by lia), hl]; exact e1
 refine ⟨⟨k.tup _ _ h, by lia⟩, fun v' H'' y => ?_⟩
 obtain ⟨rfl, y⟩ := y
 rw [e2] at y; cases y
 exact ⟨Kp.refl, hh, Rep.kp k _ _ r1⟩
end
theorem a5m {n i : Nat} {x : T} (h : (a0P 0 n)[i]? = some x) : i < n ∧ x = .int i := by
 have hl := (List.getElem?_eq_some_iff.mp h).1
 rw [a1m] at hl
 unfold a0P at h
 rw [List.getElem?_map, List.getElem?_range hl] at h
 have e := Option.some.inj h
 refine ⟨hl, ?_⟩
 rw [← e]
 simp
theorem a0J {n : Nat} (h : n < 10000) : n < sizeLine := Nat.lt_of_le_of_lt (by lia : n ≤ 10000) (by decide)
theorem a5r {n : Nat} (h : n < 10000) : n ≤ sizeLine := Nat.le_of_lt (a0J h)
end L2
namespace HT
open PySem PySem.Spec PyProof.Rows
section
variable {prog : Program} {w : World} {A : Around} {E : Value → Shared → Prop} {s : Shared}
theorem getItem_tuple_all {t sl : Addr} {items : Array Value} {vl vu : Value} {lo hi : Option Int} {Q : Value → Shared → Prop} (ht : IsTup s.heap t items) (hs : s.heap.IsSliceOf sl vl vu .none) (pl : IsPart vl lo) (pu : IsPart vu hi)
  (hw : sIx items.size 0 lo = 0 ∧ sIx items.size items.size hi = items.size) (h : Q (.ref t) s)
  (hsz : items.size ≤ sizeLine) : wpAny (model prog w) A (getItem (.ref t) (.ref sl)) Q E s := by
 obtain ⟨os, hos, hcs, hds⟩ := id hs
 have hTs : s.TypeIs (.ref sl) "slice" := ⟨os, hos, hcs⟩
 unfold getItem
 try with_reducible refine wpAny_holding ?_
 first | refine wpAny_bind (wpAny_pure ?_) | skip
 refine wpAny_bind (wpAny_sequenceKey ht.typeIs (by decide) ?_)
 refine wpAny_bind (wpAny_callSpecial?_slot (name := Str.ofString "__getitem__") ht.typeIs PyProof.Rows.slot_tuple_getitem
  (wpAny_call_entry PyProof.Rows.slot_tuple_getitem ht.typeIs entry_tuple_getitem ?_ (args_tuple_getitem _ _)))
 show wpAny _ _ (Builtin.Tuple.tupleItemsOf (.ref t) >>= _) _ _ s
 refine wpAny_bind (tupleItemsOf_ ht ?_)
 refine wpAny_bind (wpAny_typeOf hTs ?_)
 rw [if_pos (by decide)]
 refine wpAny_bind (a2X hs pl pu ?_)
 have hyes : (((sIx items.size 0 lo : Nat) : Int) == 0 && (1 : Int) == 1 && (sIx items.size items.size hi - sIx items.size 0 lo) == items.size) = true := by
  rw [hw.1, hw.2]
  simp
 show wpAny _ _ (if (((sIx items.size 0 lo : Nat) : Int) == 0 && (1 : Int) == 1 && (sIx items.size items.size hi - sIx items.size 0 lo) == items.size) = true then _ else _) _ _ s
 rw [if_pos hyes]
 refine wpAny_bind (m := Builtin.Tuple.tupleIsExact (.ref t)) (wpAny_bind (wpAny_typeOf ht.typeIs (wpAny_pure ?_)))
 rw [if_pos (by decide)]
 refine wpAny_bind (wpAny_rule ?_)
 first
  | exact wpAny_pure ⟨_, rfl, wpAny_pure h⟩
  | exact wpAny_bind (wpAny_pure (wpAny_pure ⟨_, rfl, wpAny_pure h⟩))
end
end HT
namespace L2
open PySem PySem.Spec PyProof.Rows
section
variable {X : Cx}
noncomputable def cutT (xs : List T) (lo hi : Option Int) : List T := (xs.drop (HT.sIx xs.length 0 lo)).take (HT.sIx xs.length xs.length hi - HT.sIx xs.length 0 lo)
noncomputable def b9z (K : PySem.W.Frag) : V → Option Int → Option Int → Hp → VK → Prop := fun x lo hi H Q => ∃ a xs, x = .ref a ∧ SqT K H a xs ∧
 ∀ p H', SqT K H' p (cutV xs lo hi) → (H' = H ∨ H p = none ∧ H' = upd H p (.tup (cutV xs lo hi))) → Q (.ref p) H'
theorem b5t : SlR X (b9z X.K) := by
 intro pins s σ H x v vl vu lo hi sl Q I rx hs pl pu h
 obtain ⟨a, xs, rfl, hx, q⟩ := h
 by_cases hw : HT.sIx xs.length 0 lo = 0 ∧ HT.sIx xs.length xs.length hi = xs.length
 ·cases rx
  obtain ⟨its, r, ht, hz⟩ := I.tuple hx
  have hlen : its.toArray.size = xs.length := by rw [List.size_toArray]; exact r.length.symm
  refine ⟨"tuple", _, PyProof.Rows.slot_tuple_getitem.lookup, ht.typeIs, ?_⟩
  refine HT.getItem_tuple_all ht hs pl pu (by rw [hlen]; exact hw) ?_ (by rw [hlen]; exact hz)
  have e : cutV xs lo hi = xs := by
   unfold cutV
   rw [hw.1, hw.2]
   simp
  exact ⟨.ref a, H, I, rfl, q a H (by rw [e]; exact hx) (.inl rfl)⟩
 ·exact b7u pins s σ H _ v vl vu lo hi sl Q I rx hs pl pu ⟨a, xs, rfl, hx, hw, fun p hp => q p _ (SqT.of a0s) (.inr ⟨hp, rfl⟩)⟩
theorem Reps.cut {K : PySem.W.Frag} {H : Hp} {xs : List V} {ts : List T} (r : Reps K H xs ts) (lo hi : Option Int) : Reps K H (cutV xs lo hi) (cutT ts lo hi) := by
 unfold cutV cutT
 rw [r.length]
 exact (r.drop _).take _
noncomputable abbrev TO3 := En → MH → (Option Int → MH → Prop) → Prop
noncomputable def HPo (X : Cx) (e : Option Expr) (t : TO3) : Prop := ∀ ρ M Q, t ρ M Q → PO X e (fun σ H Q2 => RhoR X.K σ H ρ ∧ HR X.K H M ∧ ∀ o M' H', Kp X.K H H' → HR X.K H' M' → Q o M' → Q2 o H')
noncomputable def dPo (K : PySem.W.Frag) (ρ : En) (t : TO3) : TO := fun σ H Q2 => ∃ M Q, t ρ M Q ∧ RhoR K σ H ρ ∧ HR K H M ∧ ∀ o M' H', Kp K H H' → HR K H' M' → Q o M' → Q2 o H'
theorem HPo.d {e : Option Expr} {t : TO3} {ρ : En} (h : HPo X e t) : PO X e (dPo X.K ρ t) := fun pins s σ H Q I ⟨M, Q3, q, b⟩ => h ρ M Q3 q pins s σ H Q I b
theorem PO.imp {e : Option Expr} {w w' : TO} (h : PO X e w) (f : ∀ σ H Q, w' σ H Q → w σ H Q) : PO X e w' := fun pins s σ H Q I q => h pins s σ H Q I (f σ H Q q)
noncomputable def tNo3 : TO3 := fun ρ M Q => Q none M
noncomputable def tPt3 (t : TE3) : TO3 := fun ρ M Q => t ρ M fun x M1 => match x with
 | .int i => Q (some i) M1
 | _ => False
theorem b1Z : HPo X none tNo3 := fun ρ M Q h => b5X.imp fun σ H Q2 ⟨hr, hh, en⟩ => en _ _ _ Kp.refl hh h
theorem b1Y {e : Expr} {t : TE3} (he : HE X e t) : HPo X (some e) (tPt3 t) := fun ρ M Q h => (b5W (he.d (ρ := ρ))).imp fun σ H Q2 ⟨hr, hh, en⟩ =>
 ⟨M, _, h, hr, hh, fun x v M1 H1 k1 h1 r1 q1 => by
  dsimp only at q1
  split at q1
  ·obtain rfl := a0p r1
   exact ⟨_, rfl, en _ _ _ k1 h1 q1⟩
  ·exact q1.elim⟩
noncomputable def rSlS : V → Option Int → Option Int → Hp → VK → Prop := fun x lo hi H Q => ∃ z, x = .str z ∧ z.length ≤ sizeLine ∧ Q (.str (Txt.slice z lo hi)) H
theorem b7v : SlR X rSlS := by
 intro pins s σ H x v vl vu lo hi sl Q I rx hs pl pu h
 obtain ⟨z, rfl, hz, q⟩ := h
 obtain ⟨t, rfl⟩ := rx
 refine ⟨"str", _, F.slot_str_getitem.lookup, typeIs_str _ _ _, ?_⟩
 have fin : ∀ t' k, EP X pins σ Q (.str (Txt.slice z lo hi) t') { s with toks := k } := fun t' k => ⟨.str _, H, I.kept fun b o e => e, ⟨_, rfl⟩, q⟩
 have hl : (Txt.slice z lo hi).length ≤ sizeLine := Nat.le_trans (Txt.slice_le z _ _) hz
 cases pl with
 | none => cases pu with
   | none => exact wpAny_getItem_str_slice (l := none) (u := none) (st := none) hs rfl (post_val_or_str ⟨hl, fin⟩)
   | int j uj => exact wpAny_getItem_str_slice (l := none) (u := some (j, uj)) (st := none) hs rfl (post_val_or_str ⟨hl, fin⟩)
 | int i ui => cases pu with
   | none => exact wpAny_getItem_str_slice (l := some (i, ui)) (u := none) (st := none) hs rfl (post_val_or_str ⟨hl, fin⟩)
   | int j uj => exact wpAny_getItem_str_slice (l := some (i, ui)) (u := some (j, uj)) (st := none) hs rfl (post_val_or_str ⟨hl, fin⟩)
noncomputable def tSl3 (te : TE3) (tl th : TO3) : TE3 := fun ρ M Q => te ρ M fun x M1 => tl ρ M1 fun l M2 => th ρ M2 fun u M3 => match x with
 | .tup ts => Q (.tup (cutT ts l u)) M3
 | .adr p => (match M3 p with
   | some (.lst ts) => ∀ r, M3 r = none → Q (.adr r) (updM M3 r (.lst (cutT ts l u)))
   | _ => False)
 | .str z => z.length ≤ sizeLine ∧ Q (.str (Txt.slice z l u)) M3
 | _ => False
theorem a8X {e : Expr} {lo hi : Option Expr} {te : TE3} {tl th : TO3} {pos p2 : Pos} (he : HE X e te) (hl : HPo X lo tl) (hu : HPo X hi th) : HE X (.Subscript e (.Slice lo hi none p2) pos) (tSl3 te tl th) := fun ρ M Q h =>
 (b3L ((b5t.or b5u).or b7v) (he.d (ρ := ρ)) (hl.d (ρ := ρ)) (hu.d (ρ := ρ))).imp fun σ H Q2 ⟨hr, hh, en⟩ =>
  ⟨M, _, h, hr, hh, fun x v M1 H1 k1 h1 r1 q1 => ⟨M1, _, q1, hr.kp k1, h1, fun l M2 H2 k2 h2 q2 => ⟨M2, _, q2, hr.kp (k1.trans k2), h2, fun u M3 H3 k3 h3 q3 => by
   have r3 := Rep.kp (k2.trans k3) _ _ r1
   have k13 := (k1.trans k2).trans k3
   split at q3
   ·rename_i ts
    obtain ⟨a, xs, rfl, g1, g2⟩ := a0H r3
    refine .inl (.inl ⟨a, xs, rfl, g1, fun p H' h' c => ?_⟩)
    rcases c with rfl | ⟨c1, rfl⟩
    ·exact en _ _ _ _ k13 h3 (a1f h' (g2.cut l u)) q3
    ·exact en _ _ _ _ (k13.trans (Kp.new c1)) (h3.keep c1) (a1f h' (Reps.kp (Kp.new c1) _ _ (g2.cut l u))) q3
   ·obtain rfl := a0v r3
    split at q3
    ·rename_i ts e0
     obtain ⟨xs, g1, g2⟩ := h3 _ _ e0
     refine .inl (.inr ⟨_, xs, rfl, SqL.of g1, fun p hp => ?_⟩)
     exact en _ _ _ _ (k13.trans (Kp.new hp)) (h3.newL hp (g2.cut l u)) a1g (q3 p (h3.free hp))
    ·exact q3.elim
   ·obtain rfl := a2T r3
    exact .inr ⟨_, rfl, q3.1, en _ _ _ _ k13 h3 a8D q3.2⟩
   ·exact q3.elim⟩⟩⟩
theorem b6J (xs : List T) (k : Int) (h0 : 0 ≤ k) (h1 : k ≤ xs.length) : cutT xs none (some k) = xs.take k.toNat := by
 unfold cutT
 have e : k = ((k.toNat : Nat) : Int) := by lia
 rw [e, HT.sIx_nat, HT.sIx_none, List.drop_zero, Nat.sub_zero, Nat.min_eq_left (by lia), Int.toNat_natCast]
theorem b2U (xs : List T) (k : Int) (h0 : 0 ≤ k) (h1 : k ≤ xs.length) : cutT xs (some k) none = xs.drop k.toNat := by
 unfold cutT
 have e : k = ((k.toNat : Nat) : Int) := by lia
 rw [e, HT.sIx_nat, HT.sIx_none, Nat.min_eq_left (by lia), Int.toNat_natCast]
 exact List.take_of_length_le (by rw [List.length_drop]; exact Nat.le_refl _)
end
end L2
namespace HT
open PySem PySem.Spec PyProof.Rows
section
variable {prog : Program} {w : World} {A : Around} {E : Value → Shared → Prop} {s : Shared}
end
end HT
namespace L2
open PySem PySem.Spec PyProof.Rows
section
variable {X : Cx}
end
section
variable {X : Cx}
end
section
variable {X : Cx}
end
section
variable {X : Cx}
end
section
variable {X : Cx} {es : List Expr} {e : Expr} {t : TA3}
end
section
variable {X : Cx} {es : List Expr} {e : Expr} {t : TA3}
noncomputable def b5s : List T → Option (List Str)
 | [] => some []
 | .str i :: ts => (b5s ts).map (i :: ·)
 | _ :: _ => none
theorem a7o : ∀ (ns : List Str), b5s (ns.map T.str) = some ns
 | [] => rfl
 | n :: ns => by show (b5s (ns.map T.str)).map (n :: ·) = _; rw [a7o ns]; rfl
end
section
variable {prog : Program} {w : World} {A : Around} {E : Value → Shared → Prop} {s : Shared}
theorem a8U {R : Result → Shared → Prop} {S r : Addr} {a b c : Int} {t u v : Tok} {n : Nat} (hh : A.handled = none) (hr : IsRange s.heap r a b c t u v) (hsmall : Builtin.Range.small a b c = true)
  (hn : Builtin.Range.rangeSize a b c = n) (hlen : n ≤ 2 ^ 24) (hS : s.heap.get? S = some { cls := .type "list", data := .seq #[] 0 })
  (hR : ∀ (h' : Heap) (tk : Tok) (acc' : Array Value) (c' : Nat), (∀ b o, b ≠ S → s.heap.get? b = some o → h'.get? b = some o) → h'.get? S = some { cls := .type "list", dict := none, data := .seq acc' c', slots := #[] } →
   ItemsOf (fun i v => ∃ t, v = .int (a + i * c) t) acc' n → R (.ok (.ret (.ref S))) { s with heap := h', toks := tk }) :
  codeAny (model prog w) A (.builtin "list.__iadd__" ⟨[.ref S, .ref r], []⟩) R s := by
 refine codeAny_builtin F.entry_list_iadd ?_
 rw [Around.under_plainId F.plain_list_iadd _]
 show wpAny _ A.in1 (Builtin.List.listExtendWith (.ref S) (.ref r) (.ref S)) _ _ _
 exact wpAny_extend_range hh hr hsmall hn hlen S (.ref S) 0 hS hR
theorem a5Q {Q : List Value → Shared → Prop} {r : Addr} {a b c : Int} {t u v : Tok} {n : Nat} (hh : A.handled = none) (hr : IsRange s.heap r a b c t u v) (hsmall : Builtin.Range.small a b c = true)
  (hn : Builtin.Range.rangeSize a b c = n) (hlen : n ≤ 2 ^ 24)
  (hQ : ∀ (h' : Heap) (tk : Tok) (acc' : Array Value), (∀ b o, s.heap.get? b = some o → h'.get? b = some o) → ItemsOf (fun i v => ∃ t, v = .int (a + i * c) t) acc' n → Q acc'.toList { s with heap := h', toks := tk }) :
  wpAny (model prog w) A (collect (.ref r)) Q E s := by
 unfold collect
 refine wpAny_bind (wpAny_runValue (codeAny_builtin F.entry_proto_collect ?_))
 rw [Around.under_plainId F.plain_proto_collect _]
 show wpAny _ A.in1 (newList [] >>= fun l => again (.builtin "list.__iadd__" ⟨[l, .ref r], []⟩)) _ _ s
 refine wpAny_bind (wpAny_newObj_type ?_)
 have hS₁ : (s.heap.push { cls := .type "list", data := .seq ([] : List Value).toArray }).get? s.heap.objs.size = some { cls := .type "list", data := .seq #[] } := Heap.get?_push_size _ rfl
 refine wpAny_pure ⟨plainId_quiet F.plain_list_iadd _, a8U (s := { s with heap := s.heap.push { cls := .type "list", data := .seq ([] : List Value).toArray } }) hh (Heap.get?_push_of_some _ hr) hsmall hn hlen hS₁ fun h' tk acc' c' hk hS hacc => ?_⟩
 show wpAny _ A (load s.heap.objs.size >>= _) _ _ _
 refine wpAny_bind (wpAny_load hS ?_)
 exact wpAny_pure (hQ h' tk acc' (fun b o e => hk b o (Nat.ne_of_lt (Heap.lt_size e)) (Heap.get?_push_of_some _ e)) hacc)
theorem a3A {Q₁ : Value → Shared → Prop} {r : Addr} {a b c : Int} {t u v : Tok} {n : Nat} (hh : A.handled = none) (hr : IsRange s.heap r a b c t u v) (hsmall : Builtin.Range.small a b c = true)
  (hn : Builtin.Range.rangeSize a b c = n) (hlen : n ≤ 2 ^ 24)
  (h : ∀ (h' : Heap) (tk : Tok) (acc : Array Value), (∀ b o, s.heap.get? b = some o → h'.get? b = some o) → ItemsOf (fun i v => ∃ t, v = .int (a + i * c) t) acc n → Q₁ (.ref h'.objs.size) { s with heap := h'.push { cls := .type "tuple", data := .seq acc }, toks := tk }) :
  codeAny (model prog w) A (.call (.builtin "tuple.__new__") ⟨[.type "tuple", .ref r], []⟩) (wants Q₁ E) s := by
 refine codeAny_of_tree ?_
 show wpAny _ A.in1 (do checkBuiltinCall "tuple.__new__" ⟨[.type "tuple", .ref r], []⟩; again (.builtin "tuple.__new__" ⟨[.type "tuple", .ref r], []⟩)) _ _ s
 refine wpAny_bind (wpAny_of_eq (F.newCall_tuple_1 _) (wpAny_pure ⟨plainId_quiet F.plain_tuple_new _, codeAny_builtin F.entry_tuple_new ?_⟩))
 rw [Around.under_plainId F.plain_tuple_new _]
 have hsub := sub_tuple_self
 have hinit := init_tuple_lookup
 have hmh := madeHere_tuple
 have hTI : s.TypeIs (.ref r) "range" := ⟨_, hr, rfl⟩
 wp_walk using wpAny_typeOf hTI, a5Q (n := n) (A := A.in1) hh hr hsmall hn hlen
 intro h' tk acc hk hacc
 show wpAny _ _ (Builtin.Tuple.tupleExact acc.toList.toArray >>= fun v => ret v) _ _ _
 unfold Builtin.Tuple.tupleExact
 refine wpAny_bind (wpAny_newObj_type ?_ (by show acc.toList.toArray.size ≤ sizeLine; simp only [Array.toArray_toList]; rw [hacc.1, sizeLine_eq]; lia))
 refine wpAny_pure ?_
 have e : acc.toList.toArray = acc := by simp
 rw [e]
 exact h h' tk acc hk hacc
theorem a2D {Q : Value → Shared → Prop} {r : Addr} {a b c : Int} {t u v : Tok} {n : Nat} (hh : A.handled = none) (hr : IsRange s.heap r a b c t u v) (hsmall : Builtin.Range.small a b c = true)
  (hn : Builtin.Range.rangeSize a b c = n) (hlen : n ≤ 2 ^ 24)
  (hQ : ∀ (h' : Heap) (tk : Tok) (acc : Array Value), (∀ b o, s.heap.get? b = some o → h'.get? b = some o) → ItemsOf (fun i v => ∃ t, v = .int (a + i * c) t) acc n → Q (.ref h'.objs.size) { s with heap := h'.push { cls := .type "tuple", data := .seq acc }, toks := tk }) :
  wpAny (model prog w) A (call (.type "tuple") [.ref r]) Q E s := by
 refine callType_codes (Q₁ := fun obj s₁ => s₁.TypeIs obj "tuple" ∧ Q obj s₁) F.called_tuple (F.typeCall_tuple_1 _) F.entry_object_init
  (a3A (A := A.in1) (Q₁ := fun obj s₁ => s₁.TypeIs obj "tuple" ∧ Q obj s₁) hh hr hsmall hn hlen fun h' tk acc hm hacc => ⟨⟨_, Heap.get?_push_size _ rfl, rfl⟩, hQ h' tk acc hm hacc⟩) fun obj s₁ h₁ => ?_
 exact ⟨h₁.1, F.args_object_init_2 obj _, object_init_meets F.called_tuple.init.lookup F.called_tuple.made (by decide) prog w A.in1 _ s₁ ⟨h₁.1, rfl, h₁.2⟩⟩
end
section
open AutoSeq1 (wpAny_loadPart')
open SeqAt (EqAt)
theorem a5c {M : Model} {A : Around} {E : Value → Shared → Prop} {s : Shared} {β : Type} (f : Nat → β → Sem (ForInStep β)) (I : List Nat → β → Shared → Prop) (Q : β → Shared → Prop)
  (turn : ∀ x rest b s, I (x :: rest) b s → wpAny M A (f x b) (fun r s' => match r with | .yield b' => I rest b' s' | .done b' => Q b' s') E s)
  (fin : ∀ b s, I [] b s → Q b s) (r : Std.Legacy.Range) (b : β) (h : I (List.range' r.start r.size r.step) b s) : wpAny M A (forIn r b f) Q E s := by
 rw [Std.Legacy.Range.forIn_eq_forIn_range']
 exact wpAny_forIn_list f I Q turn fin _ b h
theorem a6q (l : Addr) (items : Array Value) (n : Nat) (dd : Option Addr) (sl : Array (Option Value)) (x : Value) (e : Value → Bool) (j : Nat) (hj : j < items.size) (hit : e items[j] = true) (hno : ∀ m (hm : m < items.size), m < j → e items[m] = false) :
  Meets (Builtin.«tuple.index» ⟨[.ref l, x], []⟩)
   (fun A R s => s.heap.get? l = some { cls := .type "tuple", dict := dd, data := .seq items n, slots := sl } ∧ (∀ y, y ∈ items → EqAt A.in1 s y x (e y)) ∧ R (.ok (.ret (.int j s.toks))) { s with toks := s.toks + 1 }) :=
 .of_wp fun prog w A R s h => by
  obtain ⟨hp, g, d, tk, os⟩ := s; obtain ⟨hl, he, h⟩ := h
  wp_walk using wpAny_loadPart' hl, a5c _ (fun rest b s' => b.1 = none ∧ s' = ⟨hp, g, d, tk, os⟩ ∧ ∃ i, i ≤ j ∧ rest = List.range' i (items.size - i)) _
  case turn =>
   rintro y rest b s' ⟨hb, rfl, i, hij, hr⟩
   have hsz : items.size - i = (items.size - (i + 1)) + 1 := by lia
   rw [hsz, List.range'_succ] at hr
   injection hr with hy hr
   subst hy
   have hys : y < items.size := by lia
   rw [Array.getElem?_eq_getElem hys]
   refine wpAny_bind (he items[y] (Array.getElem_mem hys) prog w _ _ ?_)
   by_cases hyj : y = j
   ·subst hyj
    rw [hit]
    wp_walk
    exact ⟨_, rfl, h⟩
   ·rw [hno y hys (by lia)]
    wp_walk
    exact ⟨rfl, rfl, y + 1, by lia, hr⟩
  case fin =>
   rintro ⟨b1, b2⟩ s' ⟨hb, rfl, i, hij, hr⟩
   exfalso
   have : (List.range' i (items.size - i)).length = 0 := by rw [← hr]; rfl
   rw [List.length_range'] at this
   lia
  case h =>
   refine ⟨rfl, rfl, 0, Nat.zero_le _, ?_⟩
   simp [Std.Legacy.Range.size]
end
section
variable {X : Cx} {a b e : Expr} {es : List Expr} {ta te : TE3} {t : TA3} {pos : Pos}
noncomputable def b4C (t : TA3) : TE3 := fun ρ M Q => t ρ M fun xs M1 => match xs with
 | [.int j] => (-(2 ^ 62) ≤ j ∧ j < 2 ^ 24) ∧ Q (.tup (a0P 0 j.toNat)) M1
 | _ => False
theorem a5v {t : TA3} {p p' pos' : Pos} (hm : X.mg "tuple" = none) (hm' : X.mg "range" = none) (ha : HA X [a] t) (hc : X.calm = true := by rfl) (hg : Gl X "tuple" := by rfl) (hg' : Gl X "range" := by rfl) (hs : starEach [a] X.env = [(false, eval a X.env)] := by rfl)
  (he : starEach [.Call (.Name "range" p') [a] [] pos'] X.env = (false, eval (.Call (.Name "range" p') [a] [] pos') X.env) :: starEach [] X.env := by rfl) :
  HE X (.Call (.Name "tuple" p) [.Call (.Name "range" p') [a] [] pos'] [] pos) (b4C t) := by
 intro ρ M Q h pins s σ H Q2 I bb
 obtain ⟨hr, hh, en⟩ := bb
 refine wpAny_Call_Name_kw (a3F I hg hm boot_tuple ?_ (by decide) (by decide))
 refine PyProof.Rows.callWith_type1 ?_ he rfl
 rw [he]
 refine Calls.spliced_cons ?_
 refine Call_ (a3F I hg' hm' boot_range (PyProof.Rows.callWith_type1 (thn (ha ρ M _ h pos' pins s σ H (fun vs H1 => ∃ j M1, vs = [V.int j] ∧ HR X.K H1 M1 ∧ Kp X.K H H1 ∧ (-(2 ^ 62) ≤ j ∧ j < 2 ^ 24) ∧ Q (.tup (a0P 0 j.toNat)) M1) I
  ⟨hr, hh, fun ts vs M1 H1 k1 h1 r1 q1 => by
   dsimp only at q1
   split at q1
   ·rename_i j
    obtain ⟨v, rfl, rv⟩ := a1s r1
    obtain rfl := a0p rv
    exact ⟨j, M1, rfl, h1, k1, q1.1, q1.2⟩
   ·exact q1.elim⟩) fun us s1 ⟨vs, H1, I1, rv, j, M1, e1, h1, k1, hj, q1⟩ => ?_) hs rfl))
 subst e1
 obtain ⟨u, rfl, t', rfl⟩ := a3z rv
 refine call_range_1 (Calls.spliced_nil ?_)
 have I2 : Inv X pins σ H1 { s1 with heap := s1.heap.push { cls := .type "range", data := .fields #[.int 0 s1.toks, .int j t', .int 1 (s1.toks + 1)] }, toks := s1.toks + 2 } := I1.kept fun b o e => Heap.get?_push_of_some _ e
 have hn : Builtin.Range.rangeSize 0 j 1 = ((j.toNat : Nat) : Int) := by rw [rangeSize_one]; split <;> lia
 refine a2D (I1.ok.hd hc) (IsRange.new ..) (small_one (by lia) (by lia) (by lia) (by lia)) hn (by lia) fun h' tk acc' kp ito => ?_
 have hz : j.toNat ≤ sizeLine := by rw [sizeLine_eq]; lia
 have vr : Vals (a1l 0 j.toNat) acc'.toList := by
  refine a3J (by unfold a1l; simp [ito.1]) fun i x ex => ?_
  have hi : i < j.toNat := by have := (List.getElem?_eq_some_iff.mp ex).1; simpa [a1l] using this
  have hi' : i < acc'.size := by rw [ito.1]; exact hi
  have ea : acc'[i]? = some acc'[i] := Array.getElem?_eq_getElem hi'
  obtain ⟨tt, et⟩ := ito.2 i _ ea
  refine ⟨acc'[i], by rw [Array.getElem?_toList]; exact ea, ?_⟩
  unfold a1l at ex
  rw [List.getElem?_map, List.getElem?_range hi] at ex
  have := Option.some.inj ex
  subst this
  exact ⟨tt, by rw [et, Int.mul_one]⟩
 have I2' : Inv X pins σ H1 { s1 with heap := h', toks := tk } := I2.kept (h' := h') (t' := tk) kp
 have eacc : acc'.toList.toArray = acc' := by simp
 have I3 : Inv X pins σ (upd H1 h'.objs.size (.tup (a1l 0 j.toNat))) { s1 with heap := h'.push { cls := .type "tuple", data := .seq acc' }, toks := tk } :=
  I2'.laid (t' := tk) (fun b o e => Heap.get?_push_of_some _ e) (Nat.le_refl _) (show a0R X.prog X.w _ _ _ (.tup (a1l 0 j.toNat)) from
   ⟨by unfold a1l; simpa using hz, acc'.toList, vr, by rw [eacc]; exact a2g.new _ _⟩)
 have hf := I2'.hok.fresh (Nat.le_refl _)
 have nw := Kp.new (K := X.K) (H := H1) (o := .tup (a1l 0 j.toNat)) hf
 exact ⟨.ref h'.objs.size, _, I3, rfl, en _ _ _ _ (k1.trans nw) (h1.keep hf) (a1f (SqT.of a0s) (a5k 0 j.toNat)) q1⟩
noncomputable def b6u (M : MH) (x : T) : Prop := match x with
 | .adr p => (match M p with | some (.lst _) => True | _ => False)
 | .tup _ => True
 | _ => False
noncomputable def a8G : RM3 := fun x xs M Q => match x, xs with
 | .adr p, [.int k] => (match M p with
   | some (.lst ts) => (match a4R ts with | some ns => k ∈ ns ∧ Q (.int (ns.idxOf k)) M | none => False)
   | _ => False)
 | .tup ts, [.int k] => (match a4R ts with | some ns => k ∈ ns ∧ Q (.int (ns.idxOf k)) M | none => False)
 | _, _ => False
theorem b0H (pins : List (Addr × Obj)) (s : Shared) (σ : St) (H : Hp) (v : V) (k : Int) (u : Value) (us : List Value) (ns : List Int) (M : MH) (Q : VK3) (Q2 : VK) (I : Inv X pins σ H s) (rv : RelV v u) (rvs : Vals [.int k] us) (r1 : Rep X.K H v (.tup (ns.map T.int))) (hh : HR X.K H M)
  (en : EndE X.K H Q Q2) (hk : k ∈ ns) (q : Q (.int (ns.idxOf k)) M) : wpAny (model X.prog X.w) X.A (call (.builtin "tuple.index") (u :: us)) (EP X pins σ Q2) X.xe s := by
 obtain ⟨p, ys, rfl, g1, g2⟩ := a0H r1
 obtain rfl := g2.ints
 cases rv
 obtain ⟨w', rfl, tk, rfl⟩ := a3z rvs
 obtain ⟨its, r', pl, hz⟩ := I.tuple0 g1
 have hl := r'.length
 rw [List.length_map] at hl hz
 obtain ⟨o, eo, ec, edd, n, ed⟩ := id pl
 obtain ⟨cls, dd, data, sl⟩ := o
 simp only at ec edd ed
 subst ec edd ed
 have hk' : ns.idxOf k < ns.length := List.idxOf_lt_length_iff.mpr hk
 have item : ∀ (j : Nat) (hj : j < its.toArray.size), ∃ tk', its.toArray[j] = Value.int (ns[j]'(by rw [List.size_toArray, ← hl] at hj; exact hj)) tk' := fun j hj => by
  have hj' : j < ns.length := by rw [List.size_toArray, ← hl] at hj; exact hj
  obtain ⟨w2, e2, tk', rfl⟩ := r'.get (i := j) (x := V.int ns[j]) (by rw [List.getElem?_map, List.getElem?_eq_getElem hj'] <;> rfl)
  have : its[j]? = some its.toArray[j] := by rw [List.getElem?_eq_getElem (by rw [List.size_toArray] at hj; exact hj)] <;> simp
  rw [e2] at this
  exact ⟨tk', (Option.some.inj this).symm⟩
 let ee : Value → Bool := fun v => match v with | .int i _ => i == k | _ => false
 refine call_meets PySem.F.slot_tuple_index ⟨_, eo, rfl⟩ PySem.F.entry_tuple_index (PySem.F.args_tuple_index_2 _ _)
  (a6q p its.toArray n none sl (.int k tk) ee (ns.idxOf k) (by rw [List.size_toArray, ← hl]; exact hk') ?_ ?_) ⟨eo, fun y hy => ?_, ?_⟩
 ·obtain ⟨tk', e⟩ := item (ns.idxOf k) (by rw [List.size_toArray, ← hl]; exact hk')
  rw [e]
  show (ns[ns.idxOf k] == k) = true
  simp
 ·intro m hm hlt
  obtain ⟨tk', e⟩ := item m hm
  rw [e]
  show (ns[m]'_ == k) = false
  have := List.not_of_lt_findIdx (p := (· == k)) (xs := ns) (i := m) (by simpa [List.idxOf] using hlt)
  simpa using this
 ·obtain ⟨j, hj, rfl⟩ := Array.getElem_of_mem hy
  obtain ⟨tk', e⟩ := item j hj
  rw [e]
  exact SeqAt.EqAt.int_int _ _ _ _
 ·exact ⟨.int (ns.idxOf k), H, I.tok _, ⟨_, rfl⟩, en _ _ M H Kp.refl hh a0w q⟩
noncomputable def tLMS (to : TE3) (t : TA3) : TE3 := fun ρ M Q => to ρ M fun x M1 => b6u M1 x ∧ t ρ M1 fun xs M2 => a8G x xs M2 Q
theorem b2A {o : Expr} {to : TE3} {apos cpos : Pos} (ho : HE X o to) (ha : HA X (e :: es) t)
  (hbase : attributeBase o "index" X.env (eval o X.env) = eval o X.env := by rfl)
  (hfew : ((backTo cpos (starEach (e :: es) X.env)).all (fun x => !x.1) && (backToKw cpos (keywordEach [] X.env)).all (fun x => x.1.isSome)
   && decide ((e :: es).length + ([] : List Keyword).length + (if ([] : List Keyword).isEmpty then 0 else 1) < 30)) = true := by rfl)
  (hline : (apos.endLine == cpos.line) = true := by rfl) (hs : starEach (e :: es) X.env = (false, eval e X.env) :: starEach es X.env := by rfl) (hplain : (backTo cpos (starEach es X.env)).any (·.1) = false := by rfl) :
  HE X (.Call (.Attribute o "index" apos) (e :: es) [] cpos) (tLMS to t) := by
 intro ρ M Q h pins s σ H Q2 I bb
 obtain ⟨hr, hh, en⟩ := bb
 refine wpAny_Call_method_late hbase hfew hline rfl (thn (ho ρ M _ h pins s σ H (fun v H1 => ∃ x M1, Rep X.K H1 v x ∧ HR X.K H1 M1 ∧ Kp X.K H H1 ∧ b6u M1 x ∧ t ρ M1 fun xs M2 => a8G x xs M2 Q) I
  ⟨hr, hh, fun x v M1 H1 k1 h1 r1 q1 => ⟨x, M1, r1, h1, k1, q1.1, q1.2⟩⟩) fun v s1 ⟨vv, H1, I1, rvv, x, M1, r1, h1, k1, sq, q1⟩ => ?_)
 have hA := ha ρ M1 _ q1 cpos pins s1 σ H1
 cases x with
 | adr p =>
   have ty : tyV X.K "list" vv H1 := a9R h1 r1 sq
   obtain ⟨t1, t2⟩ := b4y I1 rvv ty
   refine ⟨"list", "list.index", PySem.F.plainAttrs_list, PySem.F.slot_list_index, PySem.F.type_list_index, t1, t2, ?_⟩
   have hB := hA (fun vs H2 => ∃ xs M2, Reps X.K H2 vs xs ∧ HR X.K H2 M2 ∧ Kp X.K H1 H2 ∧ a8G (.adr p) xs M2 Q) I1 ⟨hr.kp k1, h1, fun ts vs M2 H2 k2 h2 r2 q2 => ⟨ts, M2, r2, h2, k2, q2⟩⟩
   rw [hs] at hB ⊢
   refine Calls.callWith_builtin (by show (false || (backTo cpos (starEach es X.env)).any (·.1)) = false; rw [hplain] <;> rfl) (Calls.evalArgs_plain ?_)
   refine thn hB fun us s2 ⟨vs, H2, I2, rvs, xs, M2, r2, h2, k2, q2⟩ => ?_
   have q3 : a6E (.adr p) xs M2 Q := by
    unfold a8G at q2
    split at q2
    ·rename_i h; cases h; exact q2
    ·rename_i h; cases h
    ·exact q2.elim
   exact b2g pins s2 σ H2 vv vs v us Q2 I2 rvv rvs ⟨.adr p, xs, M2, Q, Rep.kp k2 _ _ r1, r2, h2, q3, en.kp (k1.trans k2)⟩
 | tup ts =>
   obtain ⟨a1, ys, rfl, g1, g2⟩ := a0H r1
   have eu : v = .ref a1 := by cases rvv; rfl
   obtain ⟨its, _, ⟨oo, eo, ec, ed, _⟩, _⟩ := I1.tuple0 g1
   refine ⟨"tuple", "tuple.index", PySem.F.plainAttrs_tuple, PySem.F.slot_tuple_index, PySem.F.type_tuple_index, ?_, ?_, ?_⟩
   ·rw [eu]; exact ⟨oo, eo, ec⟩
   ·intro a2 e2
    rw [eu] at e2
    cases e2
    exact ⟨oo, eo, ed⟩
   have hB := hA (fun vs H2 => ∃ xs M2, Reps X.K H2 vs xs ∧ HR X.K H2 M2 ∧ Kp X.K H1 H2 ∧ a8G (.tup ts) xs M2 Q) I1 ⟨hr.kp k1, h1, fun ts vs M2 H2 k2 h2 r2 q2 => ⟨ts, M2, r2, h2, k2, q2⟩⟩
   rw [hs] at hB ⊢
   refine Calls.callWith_builtin (by show (false || (backTo cpos (starEach es X.env)).any (·.1)) = false; rw [hplain] <;> rfl) (Calls.evalArgs_plain ?_)
   refine thn hB fun us s2 ⟨vs, H2, I2, rvs, xs, M2, r2, h2, k2, q2⟩ => ?_
   unfold a8G at q2
   split at q2
   ·rename_i h; cases h
   ·rename_i ts' k h
    cases h
    obtain ⟨w, rfl, rw'⟩ := a1s r2
    obtain rfl := a0p rw'
    split at q2
    ·rename_i ns en'
     have et := a3u en'
     subst et
     exact b0H pins s2 σ H2 _ k v us ns M2 Q Q2 I2 rvv rvs (Rep.kp k2 _ _ r1) h2 (en.kp (k1.trans k2)) q2.1 q2.2
    ·exact q2.elim
   ·exact q2.elim
 | _ => exact sq.elim
end
section
open AutoSeq1
end
section
variable {X : Cx} {a b e f : Expr} {es : List Expr} {ta te : TE3} {t : TA3} {pos : Pos}
noncomputable def keyT : Key → T
 | .inl i => .int i
 | .inr x => .str x
theorem a5j {K : PySem.W.Frag} {H : Hp} {v : V} {k : Key} (r : Rep K H v (keyT k)) : v = kV k := by
 cases k with
 | inl i => exact a0p r
 | inr x => exact a2T r
noncomputable def valT {κ : Type} [DecidableEq κ] (kvs : List (κ × T)) (k : κ) : Option T := (kvs.find? fun kv => decide (kv.1 = k)).map (·.2)
noncomputable def putT {κ : Type} [DecidableEq κ] (kvs : List (κ × T)) (k : κ) (v : T) : List (κ × T) :=
 if (kvs.any fun kv => decide (kv.1 = k)) = true then kvs.map (fun kv => if kv.1 = k then (kv.1, v) else kv) else kvs ++ [(k, v)]
theorem KRep.val {κ : Type} [DecidableEq κ] {K : PySem.W.Frag} {H : Hp} (k : κ) : ∀ {xs : List (κ × V)} {kvs : List (κ × T)}, KRep K H xs kvs → (match valT kvs k with | some t => ∃ v, valV xs k = some v ∧ Rep K H v t | none => valV xs k = none)
 | [], [], _ => rfl
 | p :: r, q :: u, h => by
   have ih := KRep.val k h.2.2
   unfold valT valV at ih ⊢
   rw [List.find?_cons, List.find?_cons, h.1]
   by_cases c : q.1 = k
   ·simp only [c, decide_true, Option.map_some]
    exact ⟨p.2, rfl, h.2.1⟩
   ·simp only [c, decide_false]
    exact ih
 | [], q :: u, h => h.elim
 | p :: r, [], h => h.elim
theorem KRep.any {κ : Type} [DecidableEq κ] {K : PySem.W.Frag} {H : Hp} (k : κ) : ∀ {xs : List (κ × V)} {kvs : List (κ × T)}, KRep K H xs kvs → (xs.any fun kv => decide (kv.1 = k)) = kvs.any fun kv => decide (kv.1 = k)
 | [], [], _ => rfl
 | p :: r, q :: u, h => by rw [List.any_cons, List.any_cons, h.1, KRep.any k h.2.2]
 | [], q :: u, h => h.elim
 | p :: r, [], h => h.elim
theorem KRep.repl {κ : Type} [DecidableEq κ] {K : PySem.W.Frag} {H : Hp} (k : κ) {v : V} {z : T} (rz : Rep K H v z) : ∀ {xs : List (κ × V)} {kvs : List (κ × T)}, KRep K H xs kvs → KRep K H (xs.map fun kv => if kv.1 = k then (kv.1, v) else kv) (kvs.map fun kv => if kv.1 = k then (kv.1, z) else kv)
 | [], [], _ => trivial
 | p :: r, q :: u, h => by
   rw [List.map_cons, List.map_cons]
   refine ⟨?_, ?_, KRep.repl k rz h.2.2⟩
   ·rw [h.1]
    by_cases c : q.1 = k
    ·rw [if_pos c, if_pos c]
    ·rw [if_neg c, if_neg c]; exact h.1
   ·rw [h.1]
    by_cases c : q.1 = k
    ·rw [if_pos c, if_pos c]; exact rz
    ·rw [if_neg c, if_neg c]; exact h.2.1
 | [], q :: u, h => h.elim
 | p :: r, [], h => h.elim
theorem KRep.snoc {κ : Type} {K : PySem.W.Frag} {H : Hp} (k : κ) {v : V} {z : T} (rz : Rep K H v z) : ∀ {xs : List (κ × V)} {kvs : List (κ × T)}, KRep K H xs kvs → KRep K H (xs ++ [(k, v)]) (kvs ++ [(k, z)])
 | [], [], _ => ⟨rfl, rz, trivial⟩
 | p :: r, q :: u, h => ⟨h.1, h.2.1, KRep.snoc k rz h.2.2⟩
 | [], q :: u, h => h.elim
 | p :: r, [], h => h.elim
theorem KRep.put {κ : Type} [DecidableEq κ] {K : PySem.W.Frag} {H : Hp} (k : κ) {v : V} {z : T} (rz : Rep K H v z) {xs : List (κ × V)} {kvs : List (κ × T)} (h : KRep K H xs kvs) : KRep K H (putK xs k v) (putT kvs k z) := by
 unfold putK putT
 rw [h.any k]
 split
 ·exact h.repl k rz
 ·exact h.snoc k rz
noncomputable def b5p (tup : Bool) : TE3 := fun _ M Q => ∀ p, M p = none → Q (.adr p) (updM M p (if tup then .dt [] else .dk []))
theorem b4R {pos : Pos} : HE X (.Dict [] [] pos) (b5p false) := fun ρ M Q h =>
 (b3O).imp fun σ H Q2 ⟨hr, hh, en⟩ => fun p hp => en _ _ _ _ (Kp.new hp) (hh.newK hp (kvs := []) (xs := []) trivial) a1g (h p (hh.free hp))
theorem b8E {pos : Pos} : HE X (.Dict [] [] pos) (b5p true) := fun ρ M Q h =>
 (b3N).imp fun σ H Q2 ⟨hr, hh, en⟩ => fun p hp => en _ _ _ _ (Kp.new hp) (hh.newT hp (kvs := []) (xs := []) trivial) a1g (h p (hh.free hp))
noncomputable def b2t (M : MH) (x : T) : Prop := match x with
 | .adr p => (match M p with | some (.dk _) => True | some (.dt _) => True | _ => False)
 | _ => False
theorem a9S {K : PySem.W.Frag} {H : Hp} {M : MH} {x : T} {v : V} (hh : HR K H M) (r : Rep K H v x) (d : b2t M x) : ∃ a, v = .ref a ∧ IsD H a := by
 cases x with
 | adr p =>
   obtain rfl := a0v r
   unfold b2t at d
   dsimp only at d
   cases e : M p with
   | none => rw [e] at d; exact d.elim
   | some o =>
     rw [e] at d
     cases o with
     | lst ts => exact d.elim
     | dk kvs => obtain ⟨xs, g1, _⟩ := hh _ _ e; exact ⟨p, rfl, .inl ⟨xs, .of g1⟩⟩
     | dt kvs => obtain ⟨xs, g1, _⟩ := hh _ _ e; exact ⟨p, rfl, .inr ⟨xs, .of g1⟩⟩
     | fz kvs => exact d.elim
     | fk kvs => exact d.elim
     | ob C fs => exact d.elim
 | _ => exact d.elim
noncomputable def b7n (td tk tx : TE3) : TE3 := fun ρ M Q => td ρ M fun x M1 => b2t M1 x ∧ tk ρ M1 fun k M2 => tx ρ M2 fun z M3 => match x with
 | .adr p => (match M3 p with
   | some (.dk kvs) => ∃ kk, k = keyT kk ∧ Q ((valT kvs kk).getD z) M3
   | _ => False)
 | _ => False
theorem b4Q {o : Expr} {td tk tx : TE3} {apos cpos : Pos} (hu : X.A.units + 64 < cLine) (ho : HE X o td) (he : HE X e tk) (hf : HE X f tx)
  (m1 : attributeBase o "get" X.env (eval o X.env) = eval o X.env := by rfl)
  (m2 : ((backTo cpos (starEach [e, f] X.env)).all (fun x => !x.1) && (backToKw cpos (keywordEach [] X.env)).all (fun x => x.1.isSome)
   && decide (([e, f] : List Expr).length + ([] : List Keyword).length + (if ([] : List Keyword).isEmpty then 0 else 1) < 30)) = true := by rfl)
  (m3 : (apos.endLine == cpos.line) = true := by rfl) (m4 : backTo cpos (starEach [e, f] X.env) = [(false, eval e X.env), (false, eval f X.env)] := by rfl) :
  HE X (.Call (.Attribute o "get" apos) [e, f] [] cpos) (b7n td tk tx) := fun ρ M Q h =>
 (a9z (by lia) (ho.d (ρ := ρ)) (he.d (ρ := ρ)) (hf.d (ρ := ρ)) ⟨m1, m2, m3, m4⟩).imp fun σ H Q2 ⟨hr, hh, en⟩ => ⟨M, _, h, hr, hh, fun x v M1 H1 k1 h1 r1 q1 => by
  obtain ⟨hd, q1⟩ := q1
  obtain ⟨a, rfl, isd⟩ := a9S h1 r1 hd
  refine ⟨a, rfl, isd, M1, _, q1, hr.kp k1, h1, fun y v2 M2 H2 k2 h2 r2 q2 => ⟨M2, _, q2, hr.kp (k1.trans k2), h2, fun z v3 M3 H3 k3 h3 r3 q3 => ?_⟩⟩
  cases x with
  | adr p =>
    cases r1
    dsimp only at q3
    split at q3
    ·rename_i kvs e
     obtain ⟨kk, rfl, q3⟩ := q3
     obtain rfl := a5j r2
     obtain ⟨xs, g1, g2⟩ := h3 _ _ e
     refine ⟨_, DGet.k g1, en _ _ M3 H3 ((k1.trans k2).trans k3) h3 ?_ q3⟩
     have hv := g2.val kk
     cases ev : valT kvs kk with
     | none => rw [ev] at hv; rw [hv]; exact r3
     | some t =>
       rw [ev] at hv
       obtain ⟨u, e1, e2⟩ := hv
       rw [e1]; exact e2
    ·exact q3.elim
  | _ => exact hd.elim⟩
noncomputable def tDGK (td tk : TE3) : TE3 := fun ρ M Q => td ρ M fun x M1 => tk ρ M1 fun k M2 => match x with
 | .adr p => (match M2 p with
   | some (.dk kvs) => ∃ kk t, k = keyT kk ∧ valT kvs kk = some t ∧ Q t M2
   | _ => False)
 | _ => False
theorem b8F {o i : Expr} {td tk : TE3} {pos : Pos} (hu : X.A.units + 64 < cLine) (ho : HE X o td) (hi : HE X i tk) (hs : NoSl i := by intro _ _; rfl) : HE X (.Subscript o i pos) (tDGK td tk) := fun ρ M Q h =>
 (b5Z (by lia) (ho.d (ρ := ρ)) (hi.d (ρ := ρ)) hs).imp fun σ H Q2 ⟨hr, hh, en⟩ => ⟨M, _, h, hr, hh, fun x v M1 H1 k1 h1 r1 q1 => ⟨M1, _, q1, hr.kp k1, h1, fun y v2 M2 H2 k2 h2 r2 q2 => by
  cases x with
  | adr p =>
    cases r1
    dsimp only at q2
    split at q2
    ·rename_i kvs e
     obtain ⟨kk, t, rfl, ev, q2⟩ := q2
     obtain rfl := a5j r2
     obtain ⟨xs, g1, g2⟩ := h2 _ _ e
     have hv := g2.val kk
     rw [ev] at hv
     obtain ⟨u, e1, e2⟩ := hv
     exact ⟨_, u, rfl, by rw [← e1]; exact DGet.k g1, en _ _ M2 H2 (k1.trans k2) h2 e2 q2⟩
    ·exact q2.elim
  | _ => exact q2.elim⟩⟩
noncomputable def sDPK (td tk tv : TE3) : TS3 := fun D ρ M => tv ρ M fun z M1 => td ρ M1 fun x M2 => tk ρ M2 fun k M3 => match x with
 | .adr p => (match M3 p with
   | some (.dk kvs) => ∃ kk, k = keyT kk ∧ kvs.length < sizeLine ∧ D.nx ρ (updM M3 p (.dk (putT kvs kk z)))
   | _ => False)
 | _ => False
theorem b3y {o i value : Expr} {td tk tv : TE3} {pos pos' : Pos} (hu : X.A.units + 64 < cLine) (hv : HE X value tv) (ho : HE X o td) (hi : HE X i tk) (hs : swapsWith value (some (.Subscript o i pos')) pos.line X.env = pure false := by rfl) :
  HS X (.Assign [.Subscript o i pos'] value pos) (sDPK td tk tv) := fun D ρ M h =>
 (b1J (by lia) (ho.d (ρ := ρ)) (hi.d (ρ := ρ)) (hv.d (ρ := ρ)) hs).imp fun D2 σ H ⟨hr, hh, en⟩ => ⟨M, _, h, hr, hh, fun z v M1 H1 k1 h1 r1 q1 => ⟨M1, _, q1, hr.kp k1, h1, fun x v2 M2 H2 k2 h2 r2 q2 => ⟨M2, _, q2, hr.kp (k1.trans k2), h2, fun y v3 M3 H3 k3 h3 r3 q3 => by
  cases x with
  | adr p =>
    cases r2
    dsimp only at q3
    split at q3
    ·rename_i kvs e
     obtain ⟨kk, rfl, hl, q3⟩ := q3
     obtain rfl := a5j r3
     obtain ⟨xs, g1, g2⟩ := h3 _ _ e
     have kk' := Kp.dict (K := X.K) (u := .dK (putK xs kk v)) g1 (.inl ⟨_, rfl⟩)
     have kall := (k1.trans k2).trans (k3.trans kk')
     refine ⟨_, _, rfl, DPut.k g1 (by rw [g2.length]; exact hl), en.nx _ _ _ _ kall (hr.kp kall) (h3.setK g1 (.inl ⟨_, rfl⟩) (g2.put kk (Rep.kp (k2.trans k3) _ _ r1))) q3⟩
    ·exact q3.elim
  | _ => exact q3.elim⟩⟩⟩
noncomputable def b4B (t : TA3) : TE3 := fun ρ M Q => t ρ M fun xs M1 => match xs with
 | [.int i, .int j] => (-(2 ^ 62) ≤ i ∧ i < 2 ^ 62 ∧ -(2 ^ 62) ≤ j ∧ j < 2 ^ 62 ∧ j - i < 2 ^ 24) ∧ Q (.tup (a0P i (j - i).toNat)) M1
 | _ => False
theorem a8W {t : TA3} {p p' pos' : Pos} (hm : X.mg "tuple" = none) (hm' : X.mg "range" = none) (ha : HA X [a, b] t) (hc : X.calm = true := by rfl) (hg : Gl X "tuple" := by rfl) (hg' : Gl X "range" := by rfl) (hs : starEach [a, b] X.env = [(false, eval a X.env), (false, eval b X.env)] := by rfl) (hs2 : starEach [b] X.env = [(false, eval b X.env)] := by rfl)
  (he : starEach [.Call (.Name "range" p') [a, b] [] pos'] X.env = (false, eval (.Call (.Name "range" p') [a, b] [] pos') X.env) :: starEach [] X.env := by rfl) :
  HE X (.Call (.Name "tuple" p) [.Call (.Name "range" p') [a, b] [] pos'] [] pos) (b4B t) := by
 intro ρ M Q h pins s σ H Q2 I bb
 obtain ⟨hr, hh, en⟩ := bb
 refine wpAny_Call_Name_kw (a3F I hg hm boot_tuple ?_ (by decide) (by decide))
 refine PyProof.Rows.callWith_type1 ?_ he rfl
 rw [he]
 refine Calls.spliced_cons ?_
 refine Call_ (a3F I hg' hm' boot_range (PyProof.Rows.callWith_type1 (thn (ha ρ M _ h pos' pins s σ H (fun vs H1 => ∃ i j M1, vs = [V.int i, V.int j] ∧ HR X.K H1 M1 ∧ Kp X.K H H1 ∧ (-(2 ^ 62) ≤ i ∧ i < 2 ^ 62 ∧ -(2 ^ 62) ≤ j ∧ j < 2 ^ 62 ∧ j - i < 2 ^ 24) ∧ Q (.tup (a0P i (j - i).toNat)) M1) I
  ⟨hr, hh, fun ts vs M1 H1 k1 h1 r1 q1 => by
   dsimp only at q1
   split at q1
   ·rename_i i j
    obtain ⟨v, w', rfl, rv, rw'⟩ := b5z r1
    obtain rfl := a0p rv
    obtain rfl := a0p rw'
    exact ⟨i, j, M1, rfl, h1, k1, q1.1, q1.2⟩
   ·exact q1.elim⟩) fun us s1 ⟨vs, H1, I1, rv, i, j, M1, e1, h1, k1, hj, q1⟩ => ?_) (by rw [hs, hs2]) (by rw [hs2]; rfl)))
 subst e1
 obtain ⟨u, u2, rfl, ⟨t0, rfl⟩, t', rfl⟩ := rv.two
 refine call_range_2 (Calls.spliced_nil ?_)
 have I2 : Inv X pins σ H1 { s1 with heap := s1.heap.push { cls := .type "range", data := .fields #[.int i t0, .int j t', .int 1 s1.toks] }, toks := s1.toks + 1 } := I1.kept fun b o e => Heap.get?_push_of_some _ e
 have hn : Builtin.Range.rangeSize i j 1 = (((j - i).toNat : Nat) : Int) := by rw [rangeSize_one]; split <;> lia
 refine a2D (I1.ok.hd hc) (IsRange.new ..) (small_one (by lia) (by lia) (by lia) (by lia)) hn (by lia) fun h' tk acc' kp ito => ?_
 have hz : (j - i).toNat ≤ sizeLine := by rw [sizeLine_eq]; lia
 have vr : Vals (a1l i (j - i).toNat) acc'.toList := by
  refine a3J (by unfold a1l; simp [ito.1]) fun k x ex => ?_
  have hi : k < (j - i).toNat := by have := (List.getElem?_eq_some_iff.mp ex).1; simpa [a1l] using this
  have hi' : k < acc'.size := by rw [ito.1]; exact hi
  have ea : acc'[k]? = some acc'[k] := Array.getElem?_eq_getElem hi'
  obtain ⟨tt, et⟩ := ito.2 k _ ea
  refine ⟨acc'[k], by rw [Array.getElem?_toList]; exact ea, ?_⟩
  unfold a1l at ex
  rw [List.getElem?_map, List.getElem?_range hi] at ex
  have := Option.some.inj ex
  subst this
  exact ⟨tt, by rw [et, Int.mul_one]⟩
 have I2' : Inv X pins σ H1 { s1 with heap := h', toks := tk } := I2.kept (h' := h') (t' := tk) kp
 have eacc : acc'.toList.toArray = acc' := by simp
 have I3 : Inv X pins σ (upd H1 h'.objs.size (.tup (a1l i (j - i).toNat))) { s1 with heap := h'.push { cls := .type "tuple", data := .seq acc' }, toks := tk } :=
  I2'.laid (t' := tk) (fun b o e => Heap.get?_push_of_some _ e) (Nat.le_refl _) (show a0R X.prog X.w _ _ _ (.tup (a1l i (j - i).toNat)) from
   ⟨by unfold a1l; simpa using hz, acc'.toList, vr, by rw [eacc]; exact a2g.new _ _⟩)
 have hf := I2'.hok.fresh (Nat.le_refl _)
 have nw := Kp.new (K := X.K) (H := H1) (o := .tup (a1l i (j - i).toNat)) hf
 exact ⟨.ref h'.objs.size, _, I3, rfl, en _ _ _ _ (k1.trans nw) (h1.keep hf) (a1f (SqT.of a0s) (a5k i (j - i).toNat)) q1⟩
end
end L2
namespace L2
open PySem PySem.Spec PyProof.Rows LM
noncomputable def b0q (st : List Int) (k : Nat) : List Int := (st.set k (st.getD (k + 1) 0)).set (k + 1) (st.getD k 0)
theorem a8v (st : List Int) (l : Int) (h : 1 ≤ l.natAbs) : b0q st (l.natAbs - 1) = a3L st l := by
 unfold b0q a3L
 rw [show l.natAbs - 1 + 1 = l.natAbs by lia]
theorem b1q (st : List Int) (k : Nat) (h : k + 1 < st.length) : st.take k ++ ([st.getD (k + 1) 0, st.getD k 0] ++ st.drop (k + 2)) = b0q st k := by
 unfold b0q
 induction st generalizing k with
 | nil => simp at h
 | cons x t ih =>
   cases k with
   | zero =>
     cases t with
     | nil => simp at h
     | cons y t => rfl
   | succ k =>
     have := ih k (by simp at h; lia)
     simp only [List.take_succ_cons, List.cons_append, List.drop_succ_cons, List.set_cons_succ, List.getD_cons_succ] at this ⊢
     rw [← this]
noncomputable def isWd (n : Int) (w : List Int) (k : Int) : Bool := decide (1 ≤ n) && decide (n ≤ 6) && decide ((w.length : Int) ≤ k) && w.all (a7U n)
theorem b6t (n : Int) (w : List Int) : isWd n w 16 = isPl n w := by
 unfold isWd isPl
 rw [show decide ((w.length : Int) ≤ 16) = decide (w.length ≤ 16) from decide_eq_decide.mpr (by lia)]
theorem a7l {κ : Type} [DecidableEq κ] (p : κ × T) (r : List (κ × T)) (k : κ) : valT (p :: r) k = if p.1 = k then some p.2 else valT r k := by
 unfold valT
 rw [List.find?_cons]
 by_cases c : p.1 = k
 ·simp [c]
 ·simp [c]
theorem a6T {M M' : MH} {p : Addr} (h : Sub M M') (hp : M' p = none) : M p = none := by
 cases q : M p with
 | none => rfl
 | some o => have := h p o q; rw [hp] at this; cases this
theorem b3h {α : Type} (xs : List α) (a b : α) : atI (xs ++ [a, b]) (-2) = some a := by
 have e : (xs ++ [a, b]).length = xs.length + 2 := by simp
 unfold atI
 rw [e]
 have : ixN (xs.length + 2) (-2) = some xs.length := by
  unfold ixN
  simp
  lia
 rw [this]
 simp
theorem b0X (xs : List T) (k : Int) (h0 : 0 ≤ k) : cutT xs (some k) none = xs.drop k.toNat := by
 unfold cutT
 have e : k = ((k.toNat : Nat) : Int) := by lia
 rw [e, HT.sIx_nat, HT.sIx_none, Int.toNat_natCast]
 by_cases h : k.toNat ≤ xs.length
 ·rw [Nat.min_eq_left h, List.take_of_length_le (by rw [List.length_drop]; lia)]
 ·rw [Nat.min_eq_right (by lia), Nat.sub_self, List.take_zero, List.drop_of_length_le (by lia)]
noncomputable def gI (w : List Int) (k : Int) : Int := w.getD k.toNat 0
theorem b8H {w : List Int} {a : Int} (h0 : 0 ≤ a) (h1 : a < w.length) : atI (w.map T.int) a = some (.int (gI w a)) := a5b w a h0 h1
theorem Sub.mk1 {A M : MH} {q : Nat} {o : MO} (h : Sub A M) (hq : M q = some o) : Sub (updM A q o) M := by
 intro x v hx
 by_cases e : x = q
 ·rw [e] at hx ⊢
  rw [a0d] at hx
  rw [hq, ← hx]
 ·rw [a0x e] at hx
  exact h x v hx
noncomputable def sw (l x : Int) : Int := if x = l - 1 then l else if x = l then l - 1 else x
noncomputable def IsP (n : Int) (r : List Int) : Prop := r.Perm (a0h n)
theorem a4j (n : Int) : a0P 0 n.toNat = (a0h n).map .int := by
 unfold a0P a0h
 rw [List.map_map]
 exact List.map_congr_left fun i _ => by show T.int (0 + (i : Nat)) = T.int (i : Nat); rw [Int.zero_add]
theorem a6B (n : Int) : (a0h n).Pairwise (· ≤ ·) := by
 unfold a0h
 rw [List.pairwise_map]
 exact List.Pairwise.imp (fun h => by lia) List.pairwise_lt_range
theorem a0i {a b : TS3} {D : Ends3} {ρ : En} {M : MH} (h : ∀ K : En → MH → Prop, K = b D → a { D with nx := K } ρ M) : a5d a b D ρ M := h _ rfl
theorem a9t {a b c : TS3} {D : Ends3} {ρ : En} {M : MH} (h : ∀ K : En → MH → Prop, K = c D → a5d a b { D with nx := K } ρ M) : a5d a (a5d b c) D ρ M := h _ rfl
theorem b3w {a b c d : TS3} {D : Ends3} {ρ : En} {M : MH} (h : ∀ K : En → MH → Prop, K = d D → a5d a (a5d b c) { D with nx := K } ρ M) : a5d a (a5d b (a5d c d)) D ρ M := h _ rfl
theorem b9u (l x : Int) : sw l (sw l x) = x := by
 unfold sw
 split
 ·rename_i h; rw [if_neg (by lia), if_pos rfl]; lia
 ·split
  ·rename_i h1 h2; rw [if_pos rfl]; lia
  ·rename_i h1 h2; rfl
theorem b7t {l k : Int} {n : Int} (h1 : 1 ≤ l) (h2 : l < n) (h0 : 0 ≤ k) (hk : k < n) : 0 ≤ sw l k ∧ sw l k < n := by
 unfold sw
 split
 ·lia
 ·split <;> lia
end L2
namespace LM
theorem WordOK.appl {n : Int} {w v : List Int} (h : WordOK n (w ++ v)) : WordOK n w := fun l hl => h l (List.mem_append_left _ hl)
theorem WordOK.appr {n : Int} {w v : List Int} (h : WordOK n (w ++ v)) : WordOK n v := fun l hl => h l (List.mem_append_right _ hl)
theorem WordOK.two {n a b : Int} (h : LetOK n a) (g : LetOK n b) : WordOK n [a, b] := fun l hl => by
 rcases List.mem_cons.mp hl with rfl | hl
 ·exact h
 ·rw [List.mem_singleton.mp hl]; exact g
theorem WordOK.three {n a b c : Int} (h : LetOK n a) (g : LetOK n b) (k : LetOK n c) : WordOK n [a, b, c] := fun l hl => by
 rcases List.mem_cons.mp hl with rfl | hl
 ·exact h
 ·exact WordOK.two g k l hl
end LM
namespace L2
open PySem PySem.Spec PyProof.Rows LM
inductive RelW (n : Int) : List Int → List Int → Prop where
 | refl (w : List Int) : RelW n w w
 | symm {w v : List Int} : RelW n w v → RelW n v w
 | trans {w v x : List Int} : RelW n w v → RelW n v x → RelW n w x
 | ctx {w v : List Int} (a b : List Int) : WordOK n a → WordOK n b → RelW n w v → RelW n (a ++ w ++ b) (a ++ v ++ b)
 | far {a b : Int} : LetOK n a → LetOK n b → (a.natAbs + 1 < b.natAbs ∨ b.natAbs + 1 < a.natAbs) → RelW n [a, b] [b, a]
 | three {p q : Int} : LetOK n p → LetOK n q → p * q > 0 → (p - q).natAbs = 1 → RelW n [p, q, p] [q, p, q]
 | out {l : Int} : LetOK n l → RelW n [l, -l] []
theorem RelW.ok {n : Int} {w v : List Int} (h : RelW n w v) : WordOK n w ↔ WordOK n v := by
 induction h with
 | refl => exact Iff.rfl
 | symm _ ih => exact ih.symm
 | trans _ _ a b => exact a.trans b
 | ctx a b ha hb _ ih => exact ⟨fun h => (ha.append (ih.mp h.appl.appr)).append hb, fun h => (ha.append (ih.mpr h.appl.appr)).append hb⟩
 | far a b _ => exact ⟨fun _ => .two b a, fun _ => .two a b⟩
 | three a b _ _ => exact ⟨fun _ => .three b a b, fun _ => .three a b a⟩
 | out a => exact ⟨fun _ => .nil, fun _ => .two a a.neg⟩
section
variable {n : Int} (h6 : n ≤ 6)
include h6
end
section
variable {n : Int}
end
section
variable {n : Int}
end
theorem WordOK.mono' {n m : Int} {w : List Int} (h : WordOK n w) (hm : n ≤ m) : WordOK m w := fun l hl => by
 have := h l hl
 unfold LetOK at this ⊢
 lia
theorem RelW.mono {n m : Int} (hm : n ≤ m) {w v : List Int} (h : RelW n w v) : RelW m w v := by
 have lm : ∀ {l : Int}, LetOK n l → LetOK m l := fun {l} h => by unfold LetOK at h ⊢; lia
 induction h with
 | refl w => exact .refl w
 | symm _ ih => exact ih.symm
 | trans _ _ a b => exact a.trans b
 | ctx a b ha hb _ ih => exact .ctx a b (WordOK.mono' ha hm) (WordOK.mono' hb hm) ih
 | far a b h => exact .far (lm a) (lm b) h
 | three a b h g => exact .three (lm a) (lm b) h g
 | out a => exact .out (lm a)
section
variable {n : Int}
end
end L2
namespace L2
open PySem PySem.Spec PyProof.Rows
noncomputable def b7D (hi : Int) (n : Nat) : List T := (List.range n).map fun i => T.int (hi - (i : Nat))
section
variable {X : Cx} {a b c : Expr} {t : TA3} {pos : Pos}
noncomputable def b6x (t : TA3) : TI3 := fun ρ M R => t ρ M fun xs M1 => match xs with
 | [.int i, .int j, .int s] => (s = -1 ∧ -(2 ^ 62) ≤ i ∧ i < 2 ^ 62 ∧ -(2 ^ 62) ≤ j ∧ j < 2 ^ 62) ∧ R ⟨b7D i (i - j).toNat, fun _ => True⟩ M1
 | _ => False
end
noncomputable def Itlr (K : PySem.W.Frag) (a : Addr) (n : Nat) : It :=
 ⟨fun i H => i < n ∧ ∃ xs, SqL K H a xs ∧ xs.length = n, fun i H x H' => H' = H ∧ ∀ xs, SqL K H a xs → xs.reverse[i]? = some x, fun i H => i = n⟩
theorem b1g {P : Program} {w : World} {K : PySem.W.Frag} {tg : Expr} (a it : Addr) (n : Nat) : Turn P w K tg (Itlr K a n) [it] it (fun i h => Heap.IsRevIter h it a ((n : Int) - 1 - (i : Int))) where
 mem := by simp
 obj := fun i h st b hb => by
  have e : b = it := by simpa using hb
  subst e
  obtain ⟨o, e, c, d⟩ := st
  exact ⟨o, e, fun v z => by rw [d] at z; cases z⟩
 keep := fun i h h' st k => st.at fun o e => k it (by simp) o e
 item := by
  intro X hP hw hK hc i pins s σ H E I hf st hg
  subst hP hw hK
  obtain ⟨hi, xs, hq, hxn⟩ := hg
  subst hxn
  obtain ⟨its, rv, p, hz⟩ := I.list hq
  have hl := rv.length
  obtain ⟨x, hx'⟩ : ∃ x, xs[xs.length - 1 - i]? = some x := ⟨_, List.getElem?_eq_getElem (by lia)⟩
  obtain ⟨u, hu, ru⟩ := rv.get hx'
  obtain ⟨f0, f1, f2, f3, f4, f5⟩ := hf it (by simp)
  have e1 : (xs.length : Int) - 1 - (i : Int) = ((xs.length - 1 - i : Nat) : Int) := by lia
  rw [e1] at st
  refine wpAny_pyNext_rev_item st p.isList (x := u) (by simpa using hu) fun h' st' sb => ?_
  have I1 : Inv X pins σ H { s with heap := h' } := I.turned (t' := s.toks) (fun b o hb e => (sb.2 b hb).trans e) f0 f1 f3 f4 f5
  have e2 : ((xs.length - 1 - i : Nat) : Int) - 1 = (xs.length : Int) - 1 - ((i + 1 : Nat) : Int) := by lia
  rw [e2] at st'
  obtain ⟨o, e, c, d⟩ := id st'
  exact ⟨u, rfl, b2C (s := { s with heap := h' }) e c d (by decide) ⟨x, H, I1, ru, ⟨rfl, fun ys hy => by rw [I.list_inj hy hq, List.getElem?_reverse hi]; exact hx'⟩, st', fun b hb => (hf b hb).1⟩⟩
 done := by
  intro X hP hw hK hc i pins s σ H E I hf st hg
  subst hP hw hK
  have hg' : i = n := hg
  subst hg'
  obtain ⟨f0, f1, f2, f3, f4, f5⟩ := hf it (by simp)
  have e1 : (i : Int) - 1 - (i : Int) = -1 := by lia
  rw [e1] at st
  exact wpAny_pyNext_rev_end (I.ok.hd hc) st fun h' eb => ⟨rfl, I.turned (t' := s.toks) (fun b o hb e => eb b o hb e) f0 f1 f3 f4 f5⟩
 self := fun _ _ _ _ _ st h => wpAny_pyIter_revIter st h
section
variable {X : Cx}
theorem b2r {K : PySem.W.Frag} {H : Hp} {a : Addr} {ts : List T} : ItOk K H (Itlr K a ts.length) ⟨ts.reverse, fun M' => M' a = some (.lst ts)⟩ := by
 refine ⟨fun H' M' k hh st => by show ts.reverse.length = _; rw [List.length_reverse], fun i x H' M' e k hh st => ?_⟩
 have e' : ts.reverse[i]? = some x := e
 have hi : i < ts.length := by have := (List.getElem?_eq_some_iff.mp e').1; simpa using this
 rw [List.getElem?_reverse hi] at e'
 obtain ⟨xs, g1, g2⟩ := hh _ _ st
 have hl := g2.length
 obtain ⟨v, e1, r1⟩ := g2.get e'
 refine ⟨⟨hi, xs, SqL.of g1, hl⟩, fun v' H'' y => ?_⟩
 obtain ⟨rfl, y⟩ := y
 have y2 := y xs (SqL.of g1)
 rw [List.getElem?_reverse (by lia), hl, e1] at y2
 cases y2
 exact ⟨Kp.refl, hh, r1⟩
noncomputable def b8B (tl : TE3) : TI3 := fun ρ M R => tl ρ M fun x M1 => match x with
 | .tup ts => R ⟨ts.reverse, fun _ => True⟩ M1
 | .adr p => (match M1 p with | some (.lst ts) => R ⟨ts.reverse, fun M' => M' p = some (.lst ts)⟩ M1 | _ => False)
 | _ => False
theorem a8V {tg l : Expr} {tl : TE3} {p : Pos} (hm : X.mg "reversed" = none) (hl : HE X l tl) (hg : Gl X "reversed" := by rfl) (hs : starEach [l] X.env = [(false, eval l X.env)] := by rfl) : HI X tg (.Call (.Name "reversed" p) [l] [] pos) (b8B tl) := by
 intro ρ M R h pins s σ H R2 I b
 obtain ⟨hr, hh, en⟩ := b
 have pa := a6J (X := X) (hl.d (ρ := ρ)) b1P hs
 refine Call_ (a3F I hg hm PyProof.Rows.boot_reversed (PyProof.Rows.callWith_type1 (thn (pa pos pins s σ H (fun vs H1 => ∃ v t M1, vs = [v] ∧ Kp X.K H H1 ∧ HR X.K H1 M1 ∧ Rep X.K H1 v t ∧ (match t with
  | .tup ts => R ⟨ts.reverse, fun _ => True⟩ M1
  | .adr p => (match M1 p with | some (.lst ts) => R ⟨ts.reverse, fun M' => M' p = some (.lst ts)⟩ M1 | _ => False)
  | _ => False)) I ⟨M, _, h, hr, hh, fun t v M1 H1 k1 h1 r1 q1 => ⟨v, t, M1, rfl, k1, h1, r1, q1⟩⟩) fun us s1 ⟨vs, H1, I1, r1, v, t, M1, e, k1, h1, rt, q1⟩ => ?_) hs rfl))
 subst e
 cases r1 with
 | cons r rr =>
   cases rr
   split at q1
   ·rename_i ts
    obtain ⟨a, xs, rfl, g1, g2⟩ := a0H rt
    cases r
    obtain ⟨its, rv, p, hz⟩ := I1.tuple g1
    have hlen := rv.length
    refine a5R p (by simp; lia) fun h' tk kk e => ?_
    refine a9P (s := { s1 with heap := h', toks := tk }) e ?_
    refine ⟨s1.heap.objs.size, [s1.heap.objs.size], _, _, H1, rfl, I1.kept (t' := tk) kk, b3q a _ xs, ?_, fun b hb => ?_, en _ _ M1 H1 k1 h1 (b4e g1 g2) q1⟩
    ·have e3 : ((its.toArray.size : Nat) : Int) - 1 = (xs.length : Int) - 1 - ((0 : Nat) : Int) := by
      have : its.toArray.size = its.length := by simp
      lia
     rw [e3] at e
     exact e
    ·have e : b = s1.heap.objs.size := by simpa using hb
     subst e
     exact I1.fpOk (Nat.le_refl _) (I1.hok.fresh (Nat.le_refl _))
   ·rename_i a
    obtain rfl := a0v rt
    cases r
    split at q1
    ·rename_i ts e0
     obtain ⟨xs, g1, g2⟩ := h1 _ _ e0
     obtain ⟨its, rv, p, hz⟩ := I1.list (SqL.of g1)
     have hlen := rv.length
     have hl2 := g2.length
     refine call_reversed_list p.isList ?_
     have st0 : Heap.IsRevIter (s1.heap.push (revObj a ((its.toArray.size : Int) - 1))) s1.heap.objs.size a ((its.toArray.size : Int) - 1) := ⟨_, Heap.get?_push_size _ rfl, rfl, rfl⟩
     refine wpAny_pyIter_revIter (s := { s1 with heap := s1.heap.push (revObj a ((its.toArray.size : Int) - 1)) }) st0 ?_
     refine ⟨s1.heap.objs.size, [s1.heap.objs.size], _, _, H1, rfl, I1.kept (t' := s1.toks) fun b o e => Heap.get?_push_of_some _ e, b1g a _ ts.length, ?_, fun b hb => ?_, en _ _ M1 H1 k1 h1 b2r q1⟩
     ·have e3 : ((its.toArray.size : Nat) : Int) - 1 = (ts.length : Int) - 1 - ((0 : Nat) : Int) := by
       have : its.toArray.size = its.length := by simp
       lia
      rw [e3] at st0 ⊢
      exact st0
     ·have e : b = s1.heap.objs.size := by simpa using hb
      subst e
      exact I1.fpOk (Nat.le_refl _) (I1.hok.fresh (Nat.le_refl _))
    ·exact q1.elim
   ·exact q1.elim
end
theorem Inv.turnNew {X : Cx} {pins : List (Addr × Obj)} {σ : St} {H : Hp} {s : Shared} {h' : Heap} {t' : Nat} {e it T : Addr} {xs : List V} (I : Inv X pins σ H s) (fe : FpOk X pins H e) (fi : FpOk X pins H it)
  (k : ∀ b o, b ≠ e → b ≠ it → s.heap.get? b = some o → h'.get? b = some o) (hT : s.heap.objs.size ≤ T) (new : a0R X.prog X.w (upd H T (.tup xs)) h' T (.tup xs)) :
  Inv X pins σ (upd H T (.tup xs)) { s with heap := h', toks := t' } := by
 have hn : H T = none := I.hok.fresh hT
 have ne : ∀ b u, H b = some u → b ≠ e ∧ b ≠ it := fun b u q => ⟨fun z => (by rw [z, fe.1] at q; cases q), fun z => (by rw [z, fi.1] at q; cases q)⟩
 have nc : ∀ {b : Addr}, b ∉ [e, it] → b ≠ e ∧ b ≠ it := fun hc => ⟨fun z => hc (by simp [z]), fun z => hc (by simp [z])⟩
 refine I.step (g' := s.gens) (d' := s.drawn) (ch := [e, it]) (fun b hb => ?_) (fun b o _ _ hc q _ => k b o (nc hc).1 (nc hc).2 q) (fun b o _ _ hc q _ => ⟨o.slots, k b o (nc hc).1 (nc hc).2 q⟩)
  (fun b o _ q n => by rw [a0l (Nat.ne_of_lt (Nat.lt_of_lt_of_le (Heap.lt_size q) hT))]; exact n)
  (fun b o hc q => ⟨o, k b o (nc hc).1 (nc hc).2 q⟩) (fun b xs q => by rw [a0l (a0k q hn)]; exact q) (fun b o u q => by rw [a0l (a0k q hn)]; exact q) (fun b ps q => ⟨#[], by rw [a0l (a0k q hn), q]; simp⟩) (fun m hm => ?_) (fun b u q => ?_) I.bare
 ·have z : b = e ∨ b = it := by simpa using hb
  rcases z with rfl | rfl
  ·exact ⟨fe.2.2.2.1, fe.2.1, fe.2.2.2.2.1, fe.2.2.2.2.2⟩
  ·exact ⟨fi.2.2.2.1, fi.2.1, fi.2.2.2.2.1, fi.2.2.2.2.2⟩
 ·obtain ⟨o, es, ep, ho, r⟩ := hm
  exact ⟨o, es, ep, k _ o (Ne.symm fe.2.1) (Ne.symm fi.2.1) ho, r⟩
 ·by_cases hb : b = T
  ·subst hb; rw [a0s] at q; cases q; exact new
  ·rw [a0l hb] at q
   refine (I.hok b u q).stay (fun c v hc z => ?_) (fun c z => by rw [a0l (a0k z hn)]; exact z) fun c xs z => by rw [a0l (a0k z hn)]; exact z
   rcases hc with y | y
   ·rw [y] at z ⊢; exact k b v (ne b u q).1 (ne b u q).2 z
   ·exact k c v (ne c _ y).1 (ne c _ y).2 z
theorem a2w {i : TI3} {g : TG3} {b : TS3} {D : Ends3} {ρ : En} {M : MH} (h : ∀ B : TS3, B = b → a4O i g B D ρ M) : a4O i g b D ρ M := h _ rfl
section
variable {X : Cx}
end
section
variable {X : Cx} {pins : List (Addr × Obj)} {σ : St} {H : Hp} {s : Shared}
end
section
variable {X : Cx} {Ha : Hp} {a b c e : Expr} {es : List Expr} {st : Stmt} {rest ba bb body : List Stmt} {ta tb te : TE3} {tA : TT3} {t u : TS3} {pos : Pos}
end
section
variable {X : Cx} {Ha : Hp} {e : Expr} {es : List Expr} {t : TA3} {pos : Pos}
end
section
variable {X : Cx} {Ha : Hp} {e : Expr} {te : TE3} {pos : Pos}
end
section
variable {P : Program} {w : World} {K : PySem.W.Frag} {mg : Str → Option Value} {base : Heap}
end
section
variable {prog : Program} {w : World} {A : Around} {E : Value → Shared → Prop} {s : Shared} {h : Heap} {g : Array GenState} {d : Drawn} {t : Nat} {os : OsState} {a C : Addr} {o : Obj} {K : PySem.W.Frag}
local macro_rules | `(tactic| walk_at "xc") => `(tactic| (repeat any_goals (first | wp_step | assumption)))
end
section
variable {X : Cx} {pos : Pos}
end
section
variable {X : Cx} {pins : List (Addr × Obj)} {σ : St} {H : Hp} {s : Shared}
end
local macro_rules | `(tactic| walk_at "xc") => `(tactic| (repeat any_goals (first | wp_step | assumption)))
section
variable {X : Cx} {pos : Pos}
end
section
variable {X : Cx} {pins : List (Addr × Obj)} {σ σ' : St} {H : Hp} {s : Shared}
end
section
variable {X : Cx} {body : List Stmt}
end
section
variable {K : PySem.W.Frag} {mg : Str → Option Value} {P : Addr} {cs : List (Str × Addr)}
end
section
variable {X : Cx}
end
section
variable {X : Cx}
end
noncomputable def b1p (i : Nat) (te : TE3) (f : Int → Int → Int) : TS3 := fun D ρ M => match ρ[i]? with
 | some (some (.int a)) => te ρ M fun y M1 => match y with
   | .int b => D.nx (ρ.set i (some (.int (f a b)))) M1
   | _ => False
 | _ => False
theorem b7y {X : Cx} {i : Nat} {x : Str} {e : Expr} {te : TE3} {op : Operator} {f : Int → Int → Int} {pos pos' : Pos} (ho : PIp X op (ipI f)) (he : HE X e te) (hN : X.N.Nodup) (hi : X.N[i]? = some x := by rfl) (hx : Loc X.env.scope x := by first | exact Or.inl rfl | exact Or.inr rfl)
  (hf : X.fn x = true ∨ X.env.scope.names.lookup x = some .local := by first | exact .inl rfl | exact .inr rfl | assumption) : HS X (.AugAssign (.Name x pos') op e pos) (b1p i te f) := fun D ρ M h =>
 (b7N hN hi hx (he.d (ρ := ρ)) ho hf).imp fun D2 σ H ⟨hr, hh, en⟩ => by
  unfold b1p at h
  split at h
  ·rename_i a e
   obtain ⟨v, ev, rv⟩ := hr.2 i _ e
   obtain rfl := a0p rv
   refine ⟨_, ev, M, _, h, hr, hh, fun t v M1 H1 k1 h1 r1 q1 => ?_⟩
   dsimp only at q1
   split at q1
   ·obtain rfl := a0p r1
    exact ⟨a, _, rfl, rfl, en.nx _ M1 _ H1 k1 ((hr.kp k1).set i a0w) h1 q1⟩
   ·exact q1.elim
  ·exact h.elim
section
variable {X : Cx} {d : Addr} {ks : List (Str × Addr)}
end
section
variable {X : Cx} {d : Addr} {ks : List (Str × Addr)}
end
section
variable {X : Cx}
end
section
variable {X : Cx} {Ha : Hp} {body : List Stmt} {pos : Pos}
end
end L2
namespace L2
open PySem PySem.Spec PyProof.Rows
open AutoSeq1 (wpAny_loadPart')
section
variable {prog : Program} {w : World} {A : Around} {E : Value → Shared → Prop} {s : Shared}
end
section
variable {X : Cx}
end
theorem a7p {es rest : List Expr} {x1} {pos : Pos} {env : Env} : starEach (.Tuple es x1 pos :: rest) env = (false, eval (.Tuple es x1 pos) env) :: starEach rest env := rfl
theorem a4G {X : Cx} {es1 es : List Expr} {x1} {pos : Pos} {ta : TE3} {t : TA3} (ha : HE X (.Tuple es1 x1 pos) ta) (hr : HA X es t) : HA X (.Tuple es1 x1 pos :: es) (b1m ta t) := a0a ha hr (hs := a7p)
end L2
namespace L2
open PySem PySem.Spec PyProof.Rows
section
variable {prog : Program} {w : World} {A : Around} {E : Value → Shared → Prop} {s : Shared}
theorem a9f {l : Addr} {vs : List Value} {Q : List Value → Shared → Prop} (hl : s.heap.IsTuple l vs.toArray)
  (h : Q vs { s with heap := (s.heap.push (seqObj "list" #[] 0)).update s.heap.objs.size (Obj.mapSeq (· ++ vs.toArray)) }) (hsz : vs.length ≤ sizeLine) :
  wpAny (model prog w) A (collect (.ref l)) Q E s := by
 obtain ⟨o, ho, hc, n, hd⟩ := id hl
 unfold collect
 refine wpAny_bind (wpAny_runValue (codeAny_builtin entry_proto_collect' ?_))
 show wpAny _ _ (do again (.builtin "list.__iadd__" ⟨[← newList [], .ref l], []⟩)) _ _ s
 refine wpAny_bind (wpAny_newList (wpAny_pure ⟨Code.quiet_builtin _ (by decide +kernel), codeAny_builtin entry_list_iadd' ?_⟩))
 show wpAny _ _ (Builtin.List.listExtendWith (.ref s.heap.objs.size) (.ref l) (.ref s.heap.objs.size)) _ _ { s with heap := s.heap.push (seqObj "list" #[] 0) }
 unfold Builtin.List.listExtendWith
 have ho' : (s.heap.push (seqObj "list" #[] 0)).get? l = some o := Heap.get?_push_of_some _ ho
 refine wpAny_bind (wpAny_typeOf (T := "tuple") ⟨o, ho', hc⟩ ?_)
 have ht : (Value.type "tuple" == Value.type "tuple") = true := by rfl
 rw [if_pos (by rw [ht]; simp)]
 refine wpAny_bind (listItems_at ho' hd ?_)
 refine wpAny_bind (listItems_at (xs := #[]) (n := 0) (Heap.get?_push_size _ rfl) rfl ?_)
 rw [if_neg (by simp)]
 refine wpAny_bind (listUpdate_at (xs := #[]) (n := 0) (Heap.get?_push_size _ rfl) rfl ?_ (Nat.zero_le _) (by show (#[] ++ vs.toArray).size ≤ sizeLine + 1; simp only [Array.size_append, List.size_toArray, List.length_nil]; lia))
 refine wpAny_pure ?_
 show wpAny (model prog w) A (do
   let o ← load s.heap.objs.size
   match o.data with
   | .seq xs _ => pure xs.toList
   | _ => unsupported "internal:collect") Q E { s with heap := (s.heap.push (seqObj "list" #[] 0)).update s.heap.objs.size (Obj.mapSeq (· ++ vs.toArray)) }
 refine wpAny_bind (wpAny_load (get?_update_seq (Heap.get?_push_size _ rfl) _) ?_)
 show wpAny _ _ (pure ((#[] : Array Value) ++ vs.toArray).toList) Q E _
 rw [show ((#[] : Array Value) ++ vs.toArray).toList = vs by simp]
 exact wpAny_pure h
theorem a7q {l : Addr} {vs : List Value} {ns : List Int} {Q : Value → Shared → Prop} (hI : IntsAre vs ns) (h64 : vs.length < 64)
  (hcol : ∀ (Q' : List Value → Shared → Prop), Q' vs { s with heap := (s.heap.push (seqObj "list" #[] 0)).update s.heap.objs.size (Obj.mapSeq (· ++ vs.toArray)) } → wpAny (model prog w) A.in1 (collect (.ref l)) Q' E s)
  (h : ∀ (out : Array Value) (ns' : List Int), IntsAre out.toList ns' → ns'.Perm ns → ns'.Pairwise (· ≤ ·) → Q (.ref (s.heap.objs.size + 1)) { s with heap := sortedAll s.heap vs out }) :
  wpAny (model prog w) A (call (.builtin "sorted") [.ref l]) Q E s := by
 refine Calls.call_function_entry kind_sorted plain_sorted entry_sorted (args_sorted1 _) ?_
 unfold Builtin.«sorted»
 refine wpAny_bind (m := checkCount "sorted" 1 1 _) (wpAny_pure ?_)
 refine wpAny_bind (hcol _ ?_)
 refine wpAny_bind (wpAny_newList ?_)
 have hsz : ((s.heap.push (seqObj "list" #[] 0)).update s.heap.objs.size (Obj.mapSeq (· ++ vs.toArray))).objs.size = s.heap.objs.size + 1 := by
  rw [Heap.size_update, size_push']
 have hoL : (((s.heap.push (seqObj "list" #[] 0)).update s.heap.objs.size (Obj.mapSeq (· ++ vs.toArray))).push (seqObj "list" vs.toArray 0)).get? (s.heap.objs.size + 1) = some (seqObj "list" vs.toArray 0) := by
  rw [← hsz]; exact Heap.get?_push_size _ rfl
 show wpAny _ _ _ _ _ { s with heap := ((s.heap.push (seqObj "list" #[] 0)).update s.heap.objs.size (Obj.mapSeq (· ++ vs.toArray))).push (seqObj "list" vs.toArray 0) }
 rw [hsz]
 refine wpAny_bind (wpAny_holding (wpAny_call_entry slot_list_sort ⟨_, hoL, rfl⟩ entry_list_sort (list_sort_tree hoL hI h64 fun out ns' a1 a2 a3 => ⟨_, rfl, ?_⟩) (args_list_sort _)))
 exact wpAny_pure ⟨_, rfl, h out ns' a1 a2 a3⟩
end
section
variable {X : Cx}
theorem a3I : a4T X (.builtin "sorted") (fun xs H Q => ∃ p ns, xs = [.ref p] ∧ (SqL X.K H p (ns.map V.int) ∨ SqT X.K H p (ns.map V.int)) ∧ ns.length < 64 ∧ ∀ ms : List Int, ms.Perm ns → ms.Pairwise (· ≤ ·) → ∀ l, H l = none → Q (.ref l) (upd H l (.lst (ms.map V.int)))) := by
 intro pins s σ H xs us Q I r h
 obtain ⟨p, ns, rfl, hq, h64, q⟩ := h
 obtain ⟨u, rfl, rx⟩ := a3z r
 cases rx
 have fin : ∀ (its : List Value), its.length = ns.length → ∀ (out : Array Value) (ns' : List Int), IntsAre out.toList ns' → ns'.Perm ns → ns'.Pairwise (· ≤ ·) → EP X pins σ Q (.ref (s.heap.objs.size + 1)) { s with heap := sortedAll s.heap its out } := by
  intro its hl out ns' h1 h2 h3
  obtain ⟨e, he⟩ := sortedAll_at s.heap its out
  have hv := a3X h1
  have hn : ns'.length ≤ sizeLine := by rw [h2.length_eq, sizeLine_eq]; lia
  refine ⟨.ref (s.heap.objs.size + 1), _, I.laid (t' := s.toks) (fun b o hb => sortedAll_old hb) (Nat.le_succ _) (show a0R X.prog X.w _ (sortedAll s.heap its out) _ (.lst (ns'.map V.int)) from ⟨by rw [List.length_map]; exact hn, out.toList, e, hv, by rw [Array.toArray_toList]; exact he⟩), rfl, q ns' h2 h3 _ (I.hok.fresh (Nat.le_succ _))⟩
 rcases hq with hq | hq
 ·obtain ⟨its, r', pl, hz⟩ := I.list hq
  have hlen : its.length = ns.length := by have := r'.length; rw [List.length_map] at this; lia
  have hl := pl.isList
  exact a7q (vs := its) (a4x r') (by lia) (fun Q' q' => collect_list (by simpa using hl) q' (by rw [sizeLine_eq]; lia)) (fin its hlen)
 ·obtain ⟨its, r', pl, hz⟩ := I.tuple hq
  have hlen : its.length = ns.length := by have := r'.length; rw [List.length_map] at this; lia
  have hl : s.heap.IsTuple p its.toArray := pl
  exact a7q (vs := its) (a4x r') (by lia) (fun Q' q' => a9f hl q' (by rw [sizeLine_eq]; lia)) (fin its hlen)
noncomputable def a6D : List T → MH → VK3 → Prop := fun xs M Q => match xs with
 | [.tup ts] => ∃ ns : List Int, ts = ns.map .int ∧ ns.length < 64 ∧ ∀ ms : List Int, ms.Perm ns → ms.Pairwise (· ≤ ·) → ∀ r, M r = none → Q (.adr r) (updM M r (.lst (ms.map .int)))
 | [.adr p] => (match M p with | some (.lst ts) => ∃ ns : List Int, ts = ns.map .int ∧ ns.length < 64 ∧ ∀ ms : List Int, ms.Perm ns → ms.Pairwise (· ≤ ·) → ∀ r, M r = none → Q (.adr r) (updM M r (.lst (ms.map .int))) | _ => False)
 | _ => False
theorem a5i {K : PySem.W.Frag} {H : Hp} : ∀ {ns : List Int} {vs : List V}, Reps K H vs (ns.map .int) → vs = ns.map V.int
 | [], _, r => by unfold Reps at r; exact r
 | n :: ns, _, r => by
   rw [List.map_cons] at r
   unfold Reps at r
   obtain ⟨v, w, rfl, r1, r2⟩ := r
   obtain rfl := a0p r1
   rw [a5i r2]
   rfl
theorem a4o {K : PySem.W.Frag} {H : Hp} : ∀ ns : List Int, Reps K H (ns.map V.int) (ns.map .int)
 | [] => by rw [List.map_nil, List.map_nil]; unfold Reps; rfl
 | n :: ns => by
   rw [List.map_cons, List.map_cons]
   unfold Reps
   exact ⟨_, _, rfl, a0w, a4o ns⟩
theorem a8j : a2E X (.builtin "sorted") a6D := by
 intro pins s σ H vs us Q2 I r h
 obtain ⟨xs, M, Q, rr, hh, q, en⟩ := h
 unfold a6D at q
 split at q
 ·obtain ⟨v, rfl, r1⟩ := a1s rr
  obtain ⟨p, ys, rfl, g1, g2⟩ := a0H r1
  obtain ⟨ns, rfl, h64, q⟩ := q
  obtain rfl := a5i g2
  exact a3I pins s σ H _ us Q2 I r ⟨p, ns, rfl, .inr g1, h64, fun ms h1 h2 l hl => en _ _ _ _ (Kp.new hl) (hh.newL hl (a4o ms)) a1g (q ms h1 h2 l (hh.free hl))⟩
 ·obtain ⟨v, rfl, r1⟩ := a1s rr
  obtain rfl := a0v r1
  split at q
  ·rename_i ts e0
   obtain ⟨ns, rfl, h64, q⟩ := q
   obtain ⟨ys, g1, g2⟩ := hh _ _ e0
   obtain rfl := a5i g2
   exact a3I pins s σ H _ us Q2 I r ⟨_, ns, rfl, .inl (SqL.of g1), h64, fun ms h1 h2 l hl => en _ _ _ _ (Kp.new hl) (hh.newL hl (a4o ms)) a1g (q ms h1 h2 l (hh.free hl))⟩
  ·exact q.elim
 ·exact q.elim
end
theorem b8r {α : Type} {us : List α} {P : List α → Prop} (hl : us.length = 1) (h : ∀ a : α, P [a]) : P us := by
 obtain ⟨a, rfl⟩ := List.length_eq_one_iff.mp hl
 exact h a
theorem b8q {α : Type} {us : List α} {P : List α → Prop} (hl : us.length = 2) (h : ∀ a b : α, P [a, b]) : P us := by
 obtain ⟨a, r, rfl⟩ := List.exists_cons_of_length_eq_add_one hl
 exact b8r (P := fun r => P (a :: r)) (Nat.succ.inj hl) (h a)
theorem b8p {α : Type} {us : List α} {P : List α → Prop} (hl : us.length = 3) (h : ∀ a b c : α, P [a, b, c]) : P us := by
 obtain ⟨a, r, rfl⟩ := List.exists_cons_of_length_eq_add_one hl
 exact b8q (P := fun r => P (a :: r)) (Nat.succ.inj hl) (h a)
theorem b8o {α : Type} {us : List α} {P : List α → Prop} (hl : us.length = 4) (h : ∀ a b c d : α, P [a, b, c, d]) : P us := by
 obtain ⟨a, r, rfl⟩ := List.exists_cons_of_length_eq_add_one hl
 exact b8p (P := fun r => P (a :: r)) (Nat.succ.inj hl) (h a)
theorem b8n {α : Type} {us : List α} {P : List α → Prop} (hl : us.length = 5) (h : ∀ a b c d e : α, P [a, b, c, d, e]) : P us := by
 obtain ⟨a, r, rfl⟩ := List.exists_cons_of_length_eq_add_one hl
 exact b8o (P := fun r => P (a :: r)) (Nat.succ.inj hl) (h a)
theorem b9R {α : Type} {us : List α} {P : List α → Prop} (hl : us.length = 6) (h : ∀ a b c d e f : α, P [a, b, c, d, e, f]) : P us := by
 obtain ⟨a, r, rfl⟩ := List.exists_cons_of_length_eq_add_one hl
 exact b8n (P := fun r => P (a :: r)) (Nat.succ.inj hl) (h a)
theorem b9S {α : Type} {us : List α} {P : List α → Prop} (hl : us.length = 0) (h : P []) : P us := by obtain rfl := List.eq_nil_of_length_eq_zero hl; exact h
section
variable {X : Cx}
end
section
variable {X : Cx}
theorem a5T : ∀ {ns : List Int} {its : List Value}, Vals (ns.map V.int) its → IntsAre its ns
 | [], _, h => by cases h; exact .nil
 | n :: ns, _, h => by
   cases h with
   | cons r h =>
     obtain ⟨t, rfl⟩ := r
     exact .cons _ _ (a5T h)
theorem a7h (hc : X.calm = true) : a4T X (.builtin "sum") (fun xs H Q => ∃ (p : Addr) (ns : List Int), xs = [.ref p] ∧ SqL X.K H p (ns.map V.int) ∧ Q (.int ns.sum) H) := by
 intro pins s σ H xs us Q I r h
 obtain ⟨p, ns, rfl, hq, q⟩ := h
 obtain ⟨u, rfl, rx⟩ := a3z r
 cases rx
 obtain ⟨its, r', pl, hz⟩ := I.list hq
 have hi := a5T r'
 obtain ⟨ys, e⟩ := hi.allInts.items
 have hl := pl.isList
 rw [e] at hl
 refine sum_intListG (I.ok.hd hc) hl fun h' tk t' hk => ?_
 have e2 : preSum (numAt ys) ys.size = ns.sum := by
  rw [preSum_eq, List.take_of_length_le (by simp), ← nums_intItems, ← e]
  show (numsOf its).sum = _
  rw [hi.numsOf]
 rw [e2]
 have I1 : Inv X pins σ H { s with heap := h', toks := tk } := I.kept hk
 exact ⟨.int _, H, I1, ⟨_, rfl⟩, q⟩
noncomputable def b5E : List T → MH → VK3 → Prop := fun xs M Q => match xs with
 | [.adr p] => (match M p with | some (.lst ts) => (match a4R ts with | some ns => Q (.int ns.sum) M | none => False) | _ => False)
 | _ => False
theorem a8i (hc : X.calm = true) : a2E X (.builtin "sum") b5E := by
 intro pins s σ H vs us Q2 I r h
 obtain ⟨xs, M, Q, rr, hh, q, en⟩ := h
 unfold b5E at q
 split at q
 ·obtain ⟨v, rfl, r1⟩ := a1s rr
  obtain rfl := a0v r1
  split at q
  ·rename_i ts e0
   obtain ⟨ys, g1, g2⟩ := hh _ _ e0
   split at q
   ·rename_i ns eb
    obtain rfl := a3u eb
    obtain rfl := Reps.ints g2
    exact a7h hc pins s σ H _ us Q2 I r ⟨_, ns, rfl, SqL.of g1, en _ _ M H Kp.refl hh a0w q⟩
   ·exact q.elim
  ·exact q.elim
 ·exact q.elim
end
end L2
namespace L2
open PySem PySem.Spec PyProof.Rows LM
section
variable {κ : Type} [DecidableEq κ]
end
section
variable {X : Cx}
end
noncomputable def g2 (tab : List (List Int)) (a b : Int) : Int := gI (tab.getD a.toNat []) b
noncomputable def InM (m c : Int) : Prop := 0 ≤ c ∧ c < m
structure TabQ (tab : List (List Int)) : Prop where
 l1 : 1 ≤ tab.length
 rows : ∀ r ∈ tab, r.length = tab.length
 idem : ∀ c, InM tab.length c → g2 tab c c = c
 col : ∀ c, InM tab.length c → (tab.map fun r => gI r c).Perm (a0h tab.length)
 third : ∀ a b c, InM tab.length a → InM tab.length b → InM tab.length c → g2 tab (g2 tab a b) c = g2 tab (g2 tab a c) (g2 tab b c)
structure TabOK (tab : List (List Int)) : Prop extends TabQ tab where
 l7 : tab.length ≤ 7
instance {tab : List (List Int)} : Coe (TabOK tab) (TabQ tab) := ⟨TabOK.toTabQ⟩
theorem b0w {m c : Int} : c ∈ a0h m ↔ InM m c := ⟨a1i, fun h => a4u h.1 h.2⟩
theorem folL_append (u v : List Int) (p : Int) : folL (u ++ v) p = folL v (folL u p) := List.foldl_append
theorem b4m {n : Int} {w v : List Int} (r : RelW n w v) : ∀ p : Int, folL w p = folL v p := by
 induction r with
 | refl => intro _; rfl
 | symm _ ih => exact fun p => (ih p).symm
 | trans _ _ a b => exact fun p => (a p).trans (b p)
 | ctx a b _ _ _ ih => intro p; rw [folL_append, folL_append, folL_append, folL_append, ih]
 | far ha hb hd =>
   intro p
   obtain ⟨a1, a2⟩ := ha
   obtain ⟨b1, b2⟩ := hb
   show a0g (a0g p _) _ = a0g (a0g p _) _
   unfold a0g
   repeat' split
   all_goals lia
 | three ha hb s hd =>
   intro p
   obtain ⟨a1, a2⟩ := ha
   obtain ⟨b1, b2⟩ := hb
   show a0g (a0g (a0g p _) _) _ = a0g (a0g (a0g p _) _) _
   have key : ∀ x y p : Int, (y = x + 1 ∨ x = y + 1) → (let f := fun (p l : Int) => if l = p then p - 1 else if l = p + 1 then p + 1 else p; f (f (f p x) y) x = f (f (f p y) x) y) := by
    intro x y p h
    dsimp only
    repeat' split
    all_goals lia
   rename_i u v
   refine key (u.natAbs : Int) (v.natAbs : Int) p ?_
   rcases Int.lt_or_le 0 u with z | z
   ·have : 0 < v := by
     rcases Int.lt_or_le 0 v with y | y
     ·exact y
     ·exact absurd s (by have := Int.mul_nonpos_of_nonneg_of_nonpos (show 0 ≤ u by lia) y; lia)
    lia
   ·have : v < 0 := by
     rcases Int.lt_or_le v 0 with y | y
     ·exact y
     ·exact absurd s (by have := Int.mul_nonpos_of_nonpos_of_nonneg z y; lia)
    lia
 | out ha =>
   intro p
   show a0g (a0g p _) _ = p
   unfold a0g
   rw [Int.natAbs_neg]
   repeat' split
   all_goals lia
section
variable {X : Cx}
end
theorem a3N : ∀ (l r : List Int), l.Nodup → (∀ x ∈ l, x ∈ r) → r.length ≤ l.length → l.Perm r
 | [], r, _, _, h => by
   rw [List.length_nil] at h
   rw [List.eq_nil_of_length_eq_zero (by lia : r.length = 0)]
 | x :: l, r, nd, hs, h => by
   have hx := hs x List.mem_cons_self
   have nd' := List.nodup_cons.mp nd
   refine (List.Perm.cons x (a3N l (r.erase x) nd'.2 (fun y hy => ?_) ?_)).trans (List.perm_cons_erase hx).symm
   ·exact (List.mem_erase_of_ne (fun z => nd'.1 (by rw [← z]; exact hy))).mpr (hs y (List.mem_cons_of_mem _ hy))
   ·rw [List.length_erase_of_mem hx]
    rw [List.length_cons] at h
    lia
theorem b9Z {us : List Int} {m : Int} (hp : us.Perm (a0h m)) {a : Int} (ha : InM m a) : InM m (gI us a) ∧ ((us.idxOf (gI us a) : Nat) : Int) = a := by
 have e : us.length = m.toNat := by rw [hp.length_eq, a0r]
 have hl : a.toNat < us.length := by have := ha.1; have := ha.2; lia
 have hg : gI us a = us[a.toNat] := by
  unfold gI
  rw [List.getD_eq_getElem?_getD, List.getElem?_eq_getElem hl]; rfl
 have nd : us.Nodup := hp.nodup_iff.mpr (a1C m)
 rw [hg]
 refine ⟨b0w.mp (hp.mem_iff.mp (List.getElem_mem hl)), ?_⟩
 have hi := List.idxOf_lt_length_of_mem (List.getElem_mem hl)
 have h2 : us[us.idxOf us[a.toNat]] = us[a.toNat] := List.getElem_idxOf hi
 have q : us.idxOf us[a.toNat] = a.toNat := by
  have pw := List.pairwise_iff_getElem.mp nd
  rcases Nat.lt_trichotomy (us.idxOf us[a.toNat]) a.toNat with z | z | z
  ·exact absurd h2 (pw _ _ hi hl z)
  ·exact z
  ·exact absurd h2.symm (pw _ _ hl hi z)
 rw [q]
 exact Int.toNat_of_nonneg ha.1
section
variable {prog : Program} {w : World} {A : Around} {E : Value → Shared → Prop} {s : Shared}
end
section
variable {X : Cx} {pos : Pos}
end
theorem b2G {α : Type} (f : α → Bool) {L : List α} {i : Nat} {x : α} (h : L[i]? = some x) : (L.take (i + 1)).filter f = (L.take i).filter f ++ if f x = true then [x] else [] := by
 rw [List.take_add_one, h, List.filter_append]
 congr 1
 show List.filter f [x] = _
 rw [List.filter_cons]
 rfl
section
variable {X : Cx} {Ha : Hp} {a b : Expr} {ta tb : TE3} {tA : TT3} {pos : Pos}
end
section
variable {X : Cx} {Ha : Hp}
end
section
variable {X : Cx} {pos : Pos}
end
section
variable {X : Cx}
end
section
variable {X : Cx}
end
section
variable {X : Cx} {e : Expr} {te : TE3} {p p2 pos pos2 : Pos}
end
noncomputable def insA (x : Int) : List Int → List (List Int)
 | [] => [[x]]
 | y :: l => (x :: y :: l) :: (insA x l).map (y :: ·)
noncomputable def a4k : List Int → List (List Int)
 | [] => [[]]
 | x :: l => (a4k l).flatMap (insA x)
theorem a9L (x : Int) : ∀ s t : List Int, s ++ x :: t ∈ insA x (s ++ t)
 | [], [] => .head _
 | [], y :: t => .head _
 | y :: s, t => .tail _ (List.mem_map.mpr ⟨_, a9L x s t, rfl⟩)
theorem a1t : ∀ {l r : List Int}, r.Perm l → r ∈ a4k l
 | [], r, h => by rw [h.eq_nil]; exact .head _
 | x :: l, r, h => by
   obtain ⟨s, t, rfl⟩ := List.append_of_mem (h.mem_iff.mpr (.head _))
   have h2 : (s ++ t).Perm l := (List.perm_middle.symm.trans h).cons_inv
   exact List.mem_flatMap.mpr ⟨_, a1t h2, a9L x s t⟩
noncomputable def cyc (o : List Int) (b : Int) : Nat → Int → List Int → Option (List Int)
 | 0, _, _ => none
 | f + 1, a, acc => if a = b then some acc else cyc o b f (gI o a) (acc ++ [a])
noncomputable def pcF (o : List Int) (n b : Int) : List Int := (a0h n).filter fun x => ((cyc o b 7 (gI o b) [b]).getD []).contains x
noncomputable def cycB (n : Nat) : Bool := (a4k (a0h n)).all fun o => (a0h n).all fun b => match cyc o b 7 (gI o b) [b] with
 | none => false
 | some c => decide (c.Perm (pcF o n b))
theorem b6I : cycB 1 = true ∧ cycB 2 = true ∧ cycB 3 = true ∧ cycB 4 = true ∧ cycB 5 = true ∧ cycB 6 = true := by decide +kernel
theorem b4X {o : List Int} {n b : Int} (n1 : 1 ≤ n) (n6 : n ≤ 6) (ho : IsP n o) (hb : b ∈ a0h n) : ∃ c, cyc o b 7 (gI o b) [b] = some c ∧ c.Perm (pcF o n b) := by
 have key : cycB n.toNat = true := by
  obtain ⟨h1, h2, h3, h4, h5, h6⟩ := b6I
  rcases (show n = 1 ∨ n = 2 ∨ n = 3 ∨ n = 4 ∨ n = 5 ∨ n = 6 by lia) with rfl | rfl | rfl | rfl | rfl | rfl
  ·exact h1
  ·exact h2
  ·exact h3
  ·exact h4
  ·exact h5
  ·exact h6
 have e : ((n.toNat : Nat) : Int) = n := by lia
 unfold cycB at key
 rw [e] at key
 have k2 := List.all_eq_true.mp (List.all_eq_true.mp key o (a1t ho)) b hb
 cases q : cyc o b 7 (gI o b) [b] with
 | none => rw [q] at k2; cases k2
 | some c => rw [q] at k2; exact ⟨c, rfl, of_decide_eq_true k2⟩
section
variable {X : Cx}
end
noncomputable def mkS (st m : List Int) (p : Int) : List Int := (m.set p.toNat (if gI m (gI st p) < gI m p then gI m (gI st p) else gI m p)).set (gI st p).toNat (if gI m (gI st p) < gI m p then gI m (gI st p) else gI m p)
noncomputable def mkR (st : List Int) (n : Int) (m : List Int) : List Int := (a0h n).foldl (mkS st) m
noncomputable def mkF (st : List Int) (n : Int) : List Int := (a0h n).foldl (fun m _ => mkR st n m) (a0h n)
noncomputable def lpF (st : List Int) (n : Int) : List (List Int) := ((a0h n).filter fun p => decide (gI (mkF st n) p = p)).map fun p => (a0h n).filter fun q => decide (gI (mkF st n) q = p)
noncomputable def pcs (o : List Int) (n : Int) : List (List Int) := ((a0h n).filter fun b => decide (gI (pcF o n b) 0 = b)).map (pcF o n)
noncomputable def lpB (n : Nat) : Bool := (a4k (a0h n)).all fun st => decide (lpF st n = pcs ((a0h n).map fun s => ((st.idxOf s : Nat) : Int)) n)
theorem b6r : lpB 1 = true ∧ lpB 2 = true ∧ lpB 3 = true ∧ lpB 4 = true ∧ lpB 5 = true := by decide +kernel
theorem b6q : lpB 6 = true := by decide +kernel
theorem b9Q {st : List Int} {n : Int} (n1 : 1 ≤ n) (n6 : n ≤ 6) (h : IsP n st) : lpF st n = pcs ((a0h n).map fun s => ((st.idxOf s : Nat) : Int)) n := by
 have key : lpB n.toNat = true := by
  obtain ⟨h1, h2, h3, h4, h5⟩ := b6r
  rcases (show n = 1 ∨ n = 2 ∨ n = 3 ∨ n = 4 ∨ n = 5 ∨ n = 6 by lia) with rfl | rfl | rfl | rfl | rfl | rfl
  ·exact h1
  ·exact h2
  ·exact h3
  ·exact h4
  ·exact h5
  ·exact b6q
 have e : ((n.toNat : Nat) : Int) = n := by lia
 unfold lpB at key
 rw [e] at key
 exact of_decide_eq_true (List.all_eq_true.mp key st (a1t h))
theorem b8m {n : Int} {ws : List Int} (n1 : 1 ≤ n) (n6 : n ≤ 6) (hw : WordOK n ws) : lpF (a1q n ws) n = pcs (a0o n ws) n := b9Q n1 n6 (a4t n ws (by lia) hw)
section
variable {P : Program} {w : World} {A : Around} {E : Value → Shared → Prop} {s : Shared}
end
theorem a7z {α β : Type} {F : α → β → Prop} : ∀ {xs : List α} {ys : List β} {i : Nat} {x : α}, Paired F xs ys → xs[i]? = some x → ∃ y, ys[i]? = some y ∧ F x y
 | _, _, _, _, .nil, e => by simp at e
 | _, _, 0, _, .cons r _, e => by simp at e; subst e; exact ⟨_, rfl, r⟩
 | _, _, i + 1, x, .cons _ t, e => by
   obtain ⟨u, h1, h2⟩ := a7z (i := i) (x := x) t (by simpa using e)
   exact ⟨u, by simpa using h1, h2⟩
section
variable {X : Cx}
end
noncomputable def mqB (n : Nat) : Bool := (a4k (a0h n)).all fun st => (fun m : List Int => (a0h n).all fun x => (fun y : Int => (decide (y ∈ a0h n) && decide (gI m y = y)) && decide (gI m (gI st x) = y)) (gI m x)) (mkF st n)
theorem b6n : mqB 1 = true ∧ mqB 2 = true ∧ mqB 3 = true ∧ mqB 4 = true ∧ mqB 5 = true := by decide +kernel
theorem b6m : mqB 6 = true := by decide +kernel
theorem b9P {st : List Int} {n x : Int} (n1 : 1 ≤ n) (n6 : n ≤ 6) (h : IsP n st) (hx : x ∈ a0h n) : gI (mkF st n) x ∈ a0h n ∧ gI (mkF st n) (gI (mkF st n) x) = gI (mkF st n) x ∧ gI (mkF st n) (gI st x) = gI (mkF st n) x := by
 have key : mqB n.toNat = true := by
  obtain ⟨h1, h2, h3, h4, h5⟩ := b6n
  rcases (show n = 1 ∨ n = 2 ∨ n = 3 ∨ n = 4 ∨ n = 5 ∨ n = 6 by lia) with rfl | rfl | rfl | rfl | rfl | rfl
  ·exact h1
  ·exact h2
  ·exact h3
  ·exact h4
  ·exact h5
  ·exact b6m
 have e : ((n.toNat : Nat) : Int) = n := by lia
 unfold mqB at key
 rw [e] at key
 have k2 := List.all_eq_true.mp (List.all_eq_true.mp key st (a1t h)) x hx
 obtain ⟨ab, c⟩ := (Bool.and_eq_true _ _).mp k2
 obtain ⟨a, b⟩ := (Bool.and_eq_true _ _).mp ab
 exact ⟨of_decide_eq_true a, of_decide_eq_true b, of_decide_eq_true c⟩
noncomputable def numF (ls : List (List Int)) : Nat → Int → Option Int
 | 0, _ => none
 | i + 1, x => if x ∈ ls.getD i [] then some (i : Int) else numF ls i x
theorem b2a {ls : List (List Int)} {x : Int} {i : Nat} : ∀ k, i < k → (∀ j, j < k → (x ∈ ls.getD j [] ↔ j = i)) → numF ls k x = some (i : Int)
 | 0, h, _ => absurd h (Nat.not_lt_zero _)
 | k + 1, h, u => by
   show (if x ∈ ls.getD k [] then some (k : Int) else numF ls k x) = _
   by_cases c : k = i
   ·rw [if_pos ((u k (Nat.lt_succ_self _)).mpr c), c]
   ·rw [if_neg (fun z => c ((u k (Nat.lt_succ_self _)).mp z))]
    exact b2a k (by lia) fun j hj => u j (by lia)
theorem b7X {n : Int} {ws : List Int} (n1 : 1 ≤ n) (n6 : n ≤ 6) (hw : WordOK n ws) : (pcs (a0o n ws) n).length ≤ 6 ∧ (∀ l ∈ pcs (a0o n ws) n, l.length ≤ 6) ∧
  ∃ nu : Int → Nat, (∀ x ∈ a0h n, nu x < (pcs (a0o n ws) n).length ∧ numF (pcs (a0o n ws) n) (pcs (a0o n ws) n).length x = some (nu x : Int) ∧ ∀ i, i < (pcs (a0o n ws) n).length → (x ∈ (pcs (a0o n ws) n).getD i [] ↔ i = nu x)) ∧ ∀ x ∈ a0h n, nu (gI (a1q n ws) x) = nu x := by
 rw [← b8m n1 n6 hw]
 have hst := a4t n ws (by lia) hw
 generalize hL : lpF (a1q n ws) n = ls
 unfold lpF at hL
 have hmk := fun x (hx : x ∈ a0h n) => b9P n1 n6 hst hx
 generalize mkF (a1q n ws) n = m at hL hmk
 generalize hR : ((a0h n).filter fun p => decide (gI m p = p)) = reps at hL
 have hrl : reps.length ≤ 6 := by
  rw [← hR]
  refine Nat.le_trans (List.length_filter_le _ _) ?_
  rw [a0r]; lia
 have hnd : reps.Nodup := by rw [← hR]; exact List.Pairwise.filter _ (a1C n)
 have hll : ls.length = reps.length := by rw [← hL, List.length_map]
 refine ⟨by rw [hll]; exact hrl, fun l hl => ?_, fun x => reps.idxOf (gI m x), fun x hx => ?_, fun x hx => by dsimp only; rw [(hmk x hx).2.2]⟩
 ·rw [← hL] at hl
  obtain ⟨p, _, rfl⟩ := List.mem_map.mp hl
  refine Nat.le_trans (List.length_filter_le _ _) ?_
  rw [a0r]; lia
 ·obtain ⟨h1, h2, _⟩ := hmk x hx
  have hmem : gI m x ∈ reps := by rw [← hR]; exact List.mem_filter.mpr ⟨h1, decide_eq_true h2⟩
  have hlt : reps.idxOf (gI m x) < ls.length := by rw [hll]; exact List.idxOf_lt_length_of_mem hmem
  have hi : ∀ i, i < ls.length → (x ∈ ls.getD i [] ↔ i = reps.idxOf (gI m x)) := fun i hil => by
   have hil2 : i < reps.length := by rw [← hll]; exact hil
   have e : ls.getD i [] = (a0h n).filter fun q => decide (gI m q = reps[i]) := by
    rw [← hL, List.getD_eq_getElem?_getD, List.getElem?_map, List.getElem?_eq_getElem hil2]; rfl
   rw [e, List.mem_filter]
   constructor
   ·rintro ⟨_, b⟩
    have b2 : gI m x = reps[i] := of_decide_eq_true b
    rw [b2]
    exact (hnd.idxOf_getElem i hil2).symm
   ·intro z
    refine ⟨hx, decide_eq_true ?_⟩
    subst z
    exact (List.getElem_idxOf hil2).symm
  exact ⟨hlt, b2a _ hlt hi, hi⟩
section
variable {X : Cx}
end
noncomputable def sgI (l : Int) : Int := if l < 0 then -1 else 1
noncomputable def cjO (n l : Int) (o : List Int) : List Int := (a0h n).map fun s => sw l (gI o (sw l s))
noncomputable def cjB (n : Nat) : Bool := (a4k (a0h n)).all fun o => (List.range n).all fun l => decide (l = 0) || decide ((pcs (cjO n l o) n).length = (pcs o n).length)
theorem b8T : cjB 1 = true ∧ cjB 2 = true ∧ cjB 3 = true ∧ cjB 4 = true ∧ cjB 5 = true := by decide +kernel
theorem c0f {o : List Int} {n : Int} {l : Nat} (n1 : 1 ≤ n) (n5 : n ≤ 5) (h : IsP n o) (h1 : 1 ≤ l) (h2 : (l : Int) < n) : (pcs (cjO n l o) n).length = (pcs o n).length := by
 have key : cjB n.toNat = true := by
  obtain ⟨k1, k2, k3, k4, k5⟩ := b8T
  rcases (show n = 1 ∨ n = 2 ∨ n = 3 ∨ n = 4 ∨ n = 5 by lia) with rfl | rfl | rfl | rfl | rfl
  ·exact k1
  ·exact k2
  ·exact k3
  ·exact k4
  ·exact k5
 have e : ((n.toNat : Nat) : Int) = n := by lia
 unfold cjB at key
 rw [e] at key
 have k2 := List.all_eq_true.mp (List.all_eq_true.mp key o (a1t h)) l (List.mem_range.mpr (by lia))
 rcases (Bool.or_eq_true _ _).mp k2 with z | z
 ·exact absurd (of_decide_eq_true z) (by lia)
 ·exact of_decide_eq_true z
theorem a9D {n : Int} {w : List Int} (hw : WordOK n w) : IsP n (a0o n w) := by
 refine a3N _ _ ?_ (fun x hx => ?_) (by rw [a2R, a0r]; exact Nat.le_refl _)
 ·rw [a0z n w hw]
  refine List.pairwise_map.mpr ((a1C n).imp_of_mem fun {a b} ha hb ne z => ne ?_)
  have z2 := a3v w a
  rw [z, a3v w b] at z2
  exact z2.symm
 ·have := a5Z hw hx
  exact a4u this.1 this.2
theorem a4B (p l : Int) (h : l ≠ 0) : a0g p l = sw l.natAbs p := by
 unfold a0g sw
 split <;> split <;> (try split) <;> lia
theorem b1Q {n l : Int} {w : List Int} (hw : WordOK n (l :: w)) : a0o n (w ++ [l]) = cjO n l.natAbs (a0o n (l :: w)) := by
 obtain ⟨z1, z2⟩ := hw l (.head _)
 have hw2 : WordOK n (w ++ [l]) := fun x hx => hw x (by rcases List.mem_append.mp hx with z | z; exact .tail _ z; rw [List.mem_singleton.mp z]; exact .head _)
 rw [a0z n _ hw2]
 unfold cjO
 refine List.map_congr_left fun s hs => ?_
 have hs2 := a1i hs
 have hb := b7t (n := n) (l := (l.natAbs : Int)) (k := s) (by lia) (by lia) hs2.1 hs2.2
 have e : gI (a0o n (l :: w)) (sw l.natAbs s) = folL (l :: w) (sw l.natAbs s) := by
  show (a0o n (l :: w)).getD (sw l.natAbs s).toNat 0 = _
  exact b0C n _ hw _ hb.1 hb.2
 rw [e, folL_append]
 show a0g (folL w s) l = sw l.natAbs (folL w (a0g (sw l.natAbs s) l))
 rw [a4B _ _ (by lia), a4B _ _ (by lia), b9u]
section
variable {P : Program} {w : World} {A : Around} {E : Value → Shared → Prop} {s : Shared}
theorem a7I : typeLookup (.type "tuple") "keys" = pure none := by rw [typeLookup_type, builtinLookup_eq_fast]; kernel_rfl
set_option maxRecDepth 8000 in
theorem a5F {a : Addr} {xs : Array Value} {k : Nat} {sl : Array (Option Value)} {Q : Option Value → Shared → Prop} (hx : s.heap.get? a = some { cls := .type "tuple", dict := none, data := .seq xs k, slots := sl }) (hA : A.handled = none)
  (h : ∀ h' tk, (∀ b o, s.heap.get? b = some o → h'.get? b = some o) → Q none { s with heap := h', toks := tk }) : wpAny (model P w) A (getAttr? (.ref a) "keys") Q E s := by
 obtain ⟨hp, g, d, tk, os⟩ := s
 have hT : ∀ tk', (⟨hp, g, d, tk', os⟩ : Shared).TypeIs (.ref a) "tuple" := fun _ => ⟨_, hx, rfl⟩
 have f1 := sub_AttributeError; have f3 := F.slot_tuple_getattribute.lookup; have f4 := F.slot_tuple_getattribute.bind (.ref a); have f5 := am_tuple_getattr_none
 have hname : (["__module__", "__name__", "__qualname__", "__doc__", "__annotations__"] : List Str).contains "keys" = false := by decide +kernel
 unfold getAttr? getAttrBy? getAttrBy
 repeat (any_goals (first | exact hT _ | assumption | ((with_reducible show wpAny _ _ (call (Value.builtin "tuple.__getattribute__") _ _) _ _ _); refine call_meets F.slot_tuple_getattribute (hT _) am_entry_tuple_getattribute (F.args_tuple_getattribute_2 _ _) (meets_getattribute_miss_tuple a xs k sl "keys" _ a7I hname (by rw [sizeLine_eq]; decide +kernel)) ⟨hx, hA, fun h' tk' e hx' => ?_⟩) | wp_step))
 obtain ⟨t', u', he⟩ := hx'.there
 show wpAny _ _ (getattributeRaised _ _ _ _ _ _ _) _ _ _
 unfold getattributeRaised
 repeat (any_goals (first | wp_step | assumption))
 exact h _ _ hx'.of.keeps
theorem a5p : entryFor table "dict.update.loop" = some Builtin.«dict.update.loop» := entryFor_of_tree (by kernel_rfl)
theorem a2Q : plainId "dict.update.loop" = true := by decide +kernel
theorem a5Y {K : Type} [DecidableEq K] {knd : KeyKind P w K} {I d : Addr} {fp wr : List Addr} {n : Nat} {V : Nat → Value → Prop} {St : Nat → Heap → Prop} (W : Walks P w A.in1 I fp wr n V St) (hdf : d ∉ fp) (res : Value) (ks : List (K × Value)) (hn : ks.length = n) (hz : n ≤ sizeLine) (h0 : Heap)
  (hV : ∀ i v, V i v → ∃ p k x key, v = .ref p ∧ ks[i]? = some (k, x) ∧ knd.is k key = true ∧ h0.IsTuple p #[key, x] ∧ p ≠ d ∧ p ∉ wr) {R : Result → Shared → Prop} :
  ∀ (m i : Nat) (s : Shared), n - i = m → i ≤ n → St i s.heap → s.heap.DictOf knd d (merged [] (ks.take i)) → (∀ b o, b ≠ d → b ∉ wr → h0.get? b = some o → s.heap.get? b = some o) →
    (∀ h' tk, h'.DictOf knd d (merged [] ks) → (∀ b o, b ≠ d → b ∉ wr → h0.get? b = some o → h'.get? b = some o) → R (.ok (.ret res)) { s with heap := h', toks := tk }) →
    codeAny (model P w) A (.builtin "dict.update.loop" ⟨[.ref d, .ref I, rawInt i, res], []⟩) R s
 | 0, i, s, hm, hi, st, hd, hk, hR => by
   obtain rfl : i = n := by lia
   refine codeAny_builtin a5p ?_
   rw [Around.under_plainId a2Q _]
   show wpAny _ A.in1 (pyNext (.ref I) >>= _) _ _ s
   refine wpAny_bind (W.done s _ _ st fun h' tk hk' => ?_)
   show wpAny _ _ (Builtin.Dict.addKeywords d [] >>= _) _ _ _
   refine wpAny_bind (wpAny_pure (wpAny_pure (hR h' tk ?_ fun b o b1 b2 e => hk' b o b2 (hk b o b1 b2 e))))
   rw [← hn, List.take_length] at hd
   obtain ⟨o, es, ep, g, r⟩ := hd
   exact ⟨o, es, ep, hk' d o (fun z => hdf (W.sub _ z)) g, r⟩
 | m + 1, i, s, hm, hi, st, hd, hk, hR => by
   refine codeAny_builtin a5p ?_
   rw [Around.under_plainId a2Q _]
   show wpAny _ A.in1 (pyNext (.ref I) >>= _) _ _ s
   refine wpAny_bind (W.item i s _ _ (by lia) st fun v h' tk hv st' hk' => ?_)
   obtain ⟨p, k, x, key, rfl, ek, hkey, hp, np1, np2⟩ := hV i v hv
   have hd' : h'.DictOf knd d (merged [] (ks.take i)) := by
    obtain ⟨o, es, ep, g, r⟩ := hd
    exact ⟨o, es, ep, hk' d o (fun z => hdf (W.sub _ z)) g, r⟩
   obtain ⟨o, ho, hc, nn, hdat⟩ := hp
   have ho' : h'.get? p = some o := hk' p o np2 (hk p o np1 np2 ho)
   show wpAny _ _ (holding [Value.ref p] _ >>= _) _ _ _
   refine wpAny_bind (wpAny_holding (wpAny_bind (wpAny_tryCatch ?_)))
   unfold Builtin.Dict.pairItems
   refine wpAny_bind (wpAny_typeOf (T := "tuple") ⟨o, ho', hc⟩ ?_)
   rw [if_pos (by decide)]
   refine wpAny_bind (wpAny_seqItems ho' hdat (wpAny_pure ?_))
   show wpAny _ _ (holding [key, x] (dictSet d key x)) _ _ _
   have hle : (merged [] (ks.take i)).length ≤ sizeLine := by
    have e1 := merged_length_le ([] : List (K × Value)) (ks.take i)
    have e2 : (ks.take i).length ≤ ks.length := by rw [List.length_take]; lia
    simp only [List.length_nil] at e1
    lia
   refine wpAny_holding (wpAny_dictSet_pairs (hsz := hle) hkey hd' fun h'' hd'' hs'' => ?_)
   refine wpAny_pure ⟨plainId_quiet a2Q _, ?_⟩
   have := a5Y W hdf res ks hn hz h0 hV (R := R) m (i + 1) { s with heap := h'', toks := tk + 1 } (by lia) (by lia) (W.frame _ _ _ st' fun b hb o e => ?_) ?_ (fun b o b1 b2 e => ?_) hR
   ·exact this
   ·exact (hs''.2 b (fun z => hdf (z ▸ hb))).trans e
   ·rw [merged_take_succ [] ks i (k, x) ek]; exact hd''
   ·exact (hs''.2 b b1).trans (hk' b o b2 (hk b o b1 b2 e))
end
section
variable {P : Program} {w : World} {A : Around} {E : Value → Shared → Prop} {s : Shared} {K : Type} [DecidableEq K] {knd : KeyKind P w K}
theorem a7d {o : Addr} {vs : List Value} {kk : Nat} {sl : Array (Option Value)} {ks : List (K × Value)} {Q : Value → Shared → Prop} (ho : s.heap.get? o = some { cls := .type "tuple", dict := none, data := .seq vs.toArray kk, slots := sl }) (hA : A.handled = none)
  (hl : ks.length = vs.length) (hz : vs.length ≤ sizeLine) (hV : ∀ (i : Nat) (v : Value), vs[i]? = some v → ∃ p k x key, v = .ref p ∧ ks[i]? = some (k, x) ∧ knd.is k key = true ∧ s.heap.IsTuple p #[key, x])
  (h : ∀ h' tk, h'.DictOf knd s.heap.objs.size (merged [] ks) → (∀ b u, s.heap.get? b = some u → h'.get? b = some u) → Q (Value.ref s.heap.objs.size) { s with heap := h', toks := tk }) :
  wpAny (model P w) A (call (.type "dict") [.ref o]) Q E s := by
 refine callType_codes (Q₁ := fun obj s₁ => obj = Value.ref s.heap.objs.size ∧ s₁ = { s with heap := s.heap.push { cls := .type "dict", data := .dict #[] } }) F.kt_called_dict (F.kt_typeCall_dict_1 _) F.entry_dict_init (kt_code_dict_new _ ⟨rfl, rfl⟩) ?_
 rintro obj s₁ ⟨rfl, rfl⟩
 have hnew : (s.heap.push { cls := .type "dict", data := .dict #[] }).DictOf knd s.heap.objs.size [] := Heap.DictOf.new s.heap
 have hdo : s.heap.objs.size ≠ o := Nat.ne_of_gt (Heap.lt_size ho)
 have ho' := Heap.get?_push_of_some { cls := .type "dict", data := .dict #[] } ho
 refine ⟨hnew.typeIs, F.args_dict_init_2 _ _, ?_⟩
 unfold Builtin.«dict.__init__» Builtin.Dict.selfAndRest; refine wpAny_bind (wpAny_bind (wpAny_notOrdered_dict hnew.typeIs ?_))
 show wpAny _ _ (pure (s.heap.objs.size, [Value.ref o])) _ _ _; refine wpAny_pure ?_
 show wpAny _ _ (Builtin.Dict.updateFrom "dict.__init__" s.heap.objs.size (.ref o) [] .none) _ _ _; unfold Builtin.Dict.updateFrom
 refine wpAny_bind (wpAny_typeOf (T := "tuple") ⟨_, ho', rfl⟩ ?_); rw [if_pos (by decide)]
 refine wpAny_bind (a5F ho' hA fun h1 tk1 k1 => ?_); rw [if_pos (by rfl)]
 have ho1 := k1 _ _ ho'
 refine wpAny_bind (wpAny_rule (wpAny_bind (wpAny_pyIter_tuple (items := vs.toArray) ⟨_, ho1, rfl, kk, rfl⟩ ?_)))
 have hI : h1.objs.size ≠ o := Nat.ne_of_gt (Heap.lt_size ho1)
 have hd1 : h1.DictOf knd s.heap.objs.size [] := by
  obtain ⟨a, es, ep, g, r⟩ := hnew
  exact ⟨a, es, ep, k1 _ _ g, r⟩
 have hdI : s.heap.objs.size ≠ h1.objs.size := by
  obtain ⟨a, es, ep, g, r⟩ := hd1
  exact Nat.ne_of_lt (Heap.lt_size g)
 have W := Walks.tuple (prog := P) (w := w) (A := A.in1.in1) (by exact hA) h1.objs.size o (Ne.symm hI) vs.toArray
 refine wpAny_pure ⟨plainId_quiet a2Q _, a5Y (knd := knd) (A := A.in1) (h0 := s.heap) (W := W) (d := s.heap.objs.size) (by simp only [List.mem_cons, List.not_mem_nil, or_false, not_or]; exact ⟨hdI, hdo⟩) _ ks (by simpa using hl) (by simpa using hz) ?_ vs.toArray.size 0 _ rfl (Nat.zero_le _) ⟨⟨_, Heap.get?_push_size _ rfl, rfl, rfl⟩, ⟨_, Heap.get?_push_of_some _ ho1, rfl, kk, rfl⟩⟩ (hd1.push _) (fun b u _ _ e => Heap.get?_push_of_some _ (k1 _ _ (Heap.get?_push_of_some _ e))) fun h' tk hd' hk' => ?_⟩
 ·intro i v hv
  obtain ⟨p, k, x, key, e1, e2, e3, e4⟩ := hV i v (by simpa using hv)
  obtain ⟨ob, g, c⟩ := id e4
  refine ⟨p, k, x, key, e1, e2, e3, e4, Nat.ne_of_lt (Heap.lt_size g), fun z => ?_⟩
  have z2 : p = h1.objs.size := by simpa using z
  exact absurd (Heap.lt_size (k1 _ _ (Heap.get?_push_of_some _ g))) (by rw [z2]; exact Nat.lt_irrefl _)
 ·refine ⟨rfl, h h' tk hd' fun b u e => hk' b u (Nat.ne_of_lt (Heap.lt_size e)) (fun z => ?_) e⟩
  have z2 : b = h1.objs.size := by simpa using z
  exact absurd (Heap.lt_size (k1 _ _ (Heap.get?_push_of_some _ e))) (by rw [z2]; exact Nat.lt_irrefl _)
end
noncomputable def b6e (kv : Key × T) : T := .tup [keyT kv.1, kv.2]
noncomputable def b1H : List T → MH → VK3 → Prop := fun xs M Q => match xs with
 | [.tup ts] => ∃ ks : List (Key × T), ts = ks.map b6e ∧ (ks.map Prod.fst).Nodup ∧ ∀ r, M r = none → Q (.adr r) (updM M r (.dk ks))
 | _ => False
section
variable {X : Cx}
theorem b3A {k : Key} {key : Value} (r : RelV (kV k) key) : a6W k key = true := by
 cases k with
 | inl i => obtain ⟨t, rfl⟩ := r; exact a7P i t
 | inr x => obtain ⟨t, rfl⟩ := r; exact a7O x t
theorem a9A {pins : List (Addr × Obj)} {σ : St} {H : Hp} {s : Shared} (I : Inv X pins σ H s) : ∀ {ks : List (Key × T)} {xs : List V} {its : List Value}, Reps X.K H xs (ks.map b6e) → Vals xs its →
  ∃ (vs : List (Key × Value)) (kv : List (Key × V)), vs.length = its.length ∧ KV kv vs ∧ KRep X.K H kv ks ∧ ∀ (i : Nat) (v : Value), its[i]? = some v → ∃ p k x key, v = .ref p ∧ vs[i]? = some (k, x) ∧ a6W k key = true ∧ s.heap.IsTuple p #[key, x]
 | [], xs, its, r, rv => by
   rw [List.map_nil] at r
   unfold Reps at r
   subst r
   cases rv
   exact ⟨[], [], rfl, .nil, trivial, fun i v e => by simp at e⟩
 | (k, t) :: ks, xs, its, r, rv => by
   rw [List.map_cons] at r
   unfold Reps at r
   obtain ⟨v, w, rfl, r1, r2⟩ := r
   cases rv with
   | @cons _ u _ us h1 h2 =>
     obtain ⟨vs, kv, hl, hk, hr, hat⟩ := a9A I r2 h2
     obtain ⟨p, ys, rfl, g1, g2⟩ := a0H r1
     obtain ⟨y1, y2, rfl, q1, q2⟩ := b5z g2
     obtain rfl := a5j q1
     cases h1
     obtain ⟨js, jv, jt, jz⟩ := I.tuple g1
     cases jv with
     | @cons _ key _ js2 a1 a2 =>
       cases a2 with
       | @cons _ x _ js3 b1 b2 =>
         cases b2
         refine ⟨(k, x) :: vs, (k, y2) :: kv, by rw [List.length_cons, List.length_cons, hl], .cons ⟨rfl, b1⟩ hk, ⟨rfl, q2, hr⟩, fun i v e => ?_⟩
         cases i with
         | zero =>
           simp at e
           subst e
           exact ⟨p, k, x, key, rfl, rfl, b3A a1, jt⟩
         | succ i =>
           obtain ⟨p', k', x', key', e1, e2, e3⟩ := hat i v (by simpa using e)
           exact ⟨p', k', x', key', e1, by simpa using e2, e3⟩
theorem a5s {K : PySem.W.Frag} {H : Hp} : ∀ {kv : List (Key × V)} {ks : List (Key × T)}, KRep K H kv ks → kv.map Prod.fst = ks.map Prod.fst
 | [], [], _ => rfl
 | p :: r, q :: u, h => by rw [List.map_cons, List.map_cons, h.1, a5s h.2.2]
 | [], q :: u, h => h.elim
 | p :: r, [], h => h.elim
theorem a9i (hc : X.calm = true) : a2E X (.type "dict") b1H := by
 intro pins s σ H vs us Q2 I r h
 obtain ⟨xs, M, Q, rr, hh, q, en⟩ := h
 unfold b1H at q
 split at q
 ·rename_i ts
  obtain ⟨ks, rfl, hnd, q⟩ := q
  obtain ⟨v, rfl, r1⟩ := a1s rr
  obtain ⟨p, ys, rfl, g1, g2⟩ := a0H r1
  obtain ⟨u, rfl, rx⟩ := a3z r
  cases rx
  obtain ⟨its, rv, ⟨ob, ho, hcl, hdd, nn, hdat⟩, hz⟩ := I.tuple0 g1
  obtain ⟨vs, kv, hl, hk, hr, hat⟩ := a9A I g2 rv
  have hlen := rv.length
  obtain ⟨c1, c2, c3, c4⟩ := ob
  simp only at hcl hdd hdat
  subst hcl hdd hdat
  have hndv : (vs.map (·.1)).Nodup := by
   have e1 := hk.keys
   have e2 := a5s hr
   rw [← e1]
   exact e2 ▸ hnd
  refine a7d (knd := a0F X.prog X.w) ho (I.ok.hd hc) hl (by lia) hat fun h' tk hd' hk' => ?_
  rw [merged_nil_of_nodup vs hndv] at hd'
  have hfr : H s.heap.objs.size = none := I.hok.fresh (Nat.le_refl _)
  have hsys : (s.heap.objs.size == sysModules) = false := by
   have := I.big
   simp only [beq_eq_false_iff_ne, ne_eq]
   exact fun z => absurd this (by rw [z]; exact Nat.lt_irrefl _)
  have kvl : kv.length ≤ sizeLine := by
   have := hk.length
   lia
  exact ⟨.ref s.heap.objs.size, _, I.laid (t' := tk) hk' (Nat.le_refl _) (show a0R X.prog X.w _ h' _ (.dK kv) from ⟨kvl, hsys, vs, hk, hd'⟩), rfl, en _ _ _ _ (Kp.new hfr) (hh.newK hfr hr) a1g (q _ (hh.free hfr))⟩
 ·exact q.elim
noncomputable def a6C : List T → MH → VK3 → Prop := fun xs M Q => match xs with
 | [.adr p] => (match M p with | some (.dk kvs) => ∃ ns : List Int, kvs.map Prod.fst = ns.map Sum.inl ∧ ns.length < 64 ∧ ∀ ms : List Int, ms.Perm ns → ms.Pairwise (· ≤ ·) → ∀ r, M r = none → Q (.adr r) (updM M r (.lst (ms.map .int))) | _ => False)
 | _ => False
end
section
variable {P : Program} {w : World} {A : Around} {E : Value → Shared → Prop} {s : Shared}
theorem a9m : ∀ {xs : List V} {us : List Value}, xs.length = us.length → (∀ (i : Nat) (x : V) (u : Value), xs[i]? = some x → us[i]? = some u → RelV x u) → Vals xs us
 | [], [], _, _ => .nil
 | [], u :: us, h, _ => by cases h
 | x :: xs, [], h, _ => by cases h
 | x :: xs, u :: us, h, f => .cons (f 0 x u rfl rfl) (a9m (by rw [List.length_cons, List.length_cons] at h; lia) fun i x' u' h1 h2 => f (i + 1) x' u' (by simpa using h1) (by simpa using h2))
theorem a8z {d : Addr} {kvs : List (Key × Value)} {ep : Nat} {ns : List Int} {Q : Value → Shared → Prop} (hA : A.handled = none) (hd : s.heap.DictAt (a0F P w) d kvs ep) (lo : (d == sysModules) = false) (hk : kvs.map (·.1) = ns.map Sum.inl) (h64 : ns.length < 64)
  (h : ∀ (h1 h' : Heap) (tk : Nat) (out : Array Value) (ns' : List Int), (∀ b u, s.heap.get? b = some u → h1.get? b = some u) → (∀ b u, h1.get? b = some u → h'.get? b = some u) → (∃ e, h'.get? h1.objs.size = some (seqObj "list" out e)) → IntsAre out.toList ns' → ns'.Perm ns → ns'.Pairwise (· ≤ ·) → Q (.ref h1.objs.size) { s with heap := h', toks := tk }) :
  wpAny (model P w) A (call (.builtin "sorted") [.ref d]) Q E s := by
 have hl : kvs.length = ns.length := by
  have := congrArg List.length hk
  rwa [List.length_map, List.length_map] at this
 refine Calls.call_function_entry kind_sorted plain_sorted entry_sorted (args_sorted1 _) ?_
 unfold Builtin.«sorted»
 refine wpAny_bind (m := checkCount "sorted" 1 1 _) (wpAny_pure (wpAny_bind (PySem.W.kdu_collect (A := A.in1) (PySem.W.kdl_dict (knd := a0F P w) (kvs := kvs) (ep := ep) lo) hA hd (by rw [hl, sizeLine_eq]; lia) fun h' tk acc hkp hacc => ?_)))
 obtain ⟨hsz, hat⟩ := hacc
 have hI : IntsAre acc.toList ns := a4x (a9m (by rw [List.length_map]; exact (hl.symm.trans hsz.symm).trans Array.length_toList.symm) fun i x u h1 h2 => by
  obtain ⟨k, y, e1, e2⟩ := hat i u (by rw [← Array.getElem?_toList]; exact h2)
  have e3 : (kvs.map (·.1))[i]? = some k := by rw [List.getElem?_map, e1]; rfl
  rw [hk, List.getElem?_map] at e3
  rw [List.getElem?_map] at h1
  cases en : ns[i]? with
  | none => rw [en] at h1; cases h1
  | some n =>
    rw [en] at e3 h1
    obtain rfl := Option.some.inj h1
    have e4 : Sum.inl n = k := Option.some.inj e3
    subst e4
    rw [b0J] at e2
    rcases a0G e2 with ⟨j, t, z1, z2⟩ | ⟨j, t, z1, z2⟩
    ·cases z1; exact ⟨t, z2⟩
    ·cases z1)
 refine wpAny_bind (wpAny_newList ?_)
 have hoL : (h'.push (seqObj "list" acc.toList.toArray 0)).get? h'.objs.size = some (seqObj "list" acc.toList.toArray 0) := Heap.get?_push_size _ rfl
 refine wpAny_bind (wpAny_holding (wpAny_call_entry slot_list_sort ⟨_, hoL, rfl⟩ entry_list_sort (list_sort_tree hoL hI (by rw [Array.length_toList, hsz, hl]; exact h64) fun out ns' a1 a2 a3 => ⟨_, rfl, ?_⟩) (args_list_sort _)))
 exact wpAny_pure ⟨_, rfl, h h' _ _ out ns' hkp (fun b u e => (sortedHeap_old (Nat.ne_of_lt (Heap.lt_size e)) (Nat.lt_of_lt_of_le (Heap.lt_size e) (by show h'.objs.size ≤ (h'.push (seqObj "list" acc.toList.toArray 0)).objs.size; rw [size_push']; exact Nat.le_succ _))).trans (Heap.get?_push_of_some _ e)) (sortedHeap_at hoL) a1 a2 a3⟩
end
section
variable {X : Cx}
theorem a7i (hc : X.calm = true) : a2E X (.builtin "sorted") a6C := by
 intro pins s σ H vs us Q2 I r h
 obtain ⟨xs, M, Q, rr, hh, q, en⟩ := h
 unfold a6C at q
 split at q
 ·obtain ⟨v, rfl, r1⟩ := a1s rr
  obtain rfl := a0v r1
  obtain ⟨u, rfl, rx⟩ := a3z r
  cases rx
  split at q
  ·rename_i kvs e0
   obtain ⟨ns, hk, h64, q⟩ := q
   obtain ⟨kv, g1, g2⟩ := hh _ _ e0
   obtain ⟨kz, lo, vs, r1, dd⟩ := (show a0R X.prog X.w H s.heap _ (.dK kv) from I.hok _ _ g1)
   obtain ⟨ep, da⟩ := dd.dictAt
   have e1 : vs.map (·.1) = ns.map Sum.inl := by
    rw [← r1.keys]
    exact (a5s g2).trans hk
   refine a8z (I.ok.hd hc) da lo e1 h64 fun h1 h' tk out ns' hkp hkp2 ⟨e, hg⟩ a1 a2 a3 => ?_
   have I1 : Inv X pins σ H { s with heap := h1, toks := s.toks } := I.kept hkp
   have hfr : H h1.objs.size = none := I1.hok.fresh (Nat.le_refl _)
   have hn : ns'.length ≤ sizeLine := by rw [a2.length_eq, sizeLine_eq]; lia
   exact ⟨.ref h1.objs.size, _, I1.laid (t' := tk) hkp2 (Nat.le_refl _) (show a0R X.prog X.w _ h' _ (.lst (ns'.map V.int)) from ⟨by rw [List.length_map]; exact hn, out.toList, e, a3X a1, by rw [Array.toArray_toList]; exact hg⟩), rfl, en _ _ _ _ (Kp.new hfr) (hh.newL hfr (a4o ns')) a1g (q ns' a2 a3 _ (hh.free hfr))⟩
  ·exact q.elim
 ·exact q.elim
end
noncomputable abbrev Po := List (Int × Int)
noncomputable def co : Po → Int → Int
 | [], _ => 0
 | x :: r, k => (if x.1 = k then x.2 else 0) + co r k
noncomputable def CanP (p : Po) : Prop := p.Pairwise (fun a b => a.1 < b.1) ∧ ∀ x ∈ p, x.2 ≠ 0
theorem a1b (p q : Po) (k : Int) : co (p ++ q) k = co p k + co q k := by
 induction p with
 | nil => show co q k = 0 + co q k; lia
 | cons x r ih =>
   show (if x.1 = k then x.2 else 0) + co (r ++ q) k = ((if x.1 = k then x.2 else 0) + co r k) + co q k
   rw [ih]; lia
theorem a3g {p : Po} {k : Int} (h : ∀ x ∈ p, x.1 ≠ k) : co p k = 0 := by
 induction p with
 | nil => rfl
 | cons x r ih =>
   show (if x.1 = k then x.2 else 0) + co r k = 0
   rw [if_neg (h x (.head _)), ih fun y hy => h y (.tail _ hy)]; rfl
theorem a8d {p : Po} (h : p.Pairwise (fun a b => a.1 < b.1)) {x : Int × Int} (hx : x ∈ p) : co p x.1 = x.2 := by
 induction p with
 | nil => cases hx
 | cons y r ih =>
   obtain ⟨h1, h2⟩ := List.pairwise_cons.mp h
   show (if y.1 = x.1 then y.2 else 0) + co r x.1 = x.2
   rcases List.mem_cons.mp hx with e | e
   ·subst e
    rw [if_pos rfl, a3g fun z hz => Int.ne_of_gt (h1 z hz)]; lia
   ·rw [if_neg (Int.ne_of_lt (h1 x e)), ih h2 e]; lia
theorem a3y : ∀ {p q : Po}, CanP p → CanP q → (∀ k, co p k = co q k) → p = q
 | [], [], _, _, _ => rfl
 | [], y :: q, _, hq, h => by
   have e := a8d hq.1 (List.mem_cons_self (a := y) (l := q))
   rw [← h] at e
   exact absurd e.symm (hq.2 y (.head _))
 | x :: p, [], hp, _, h => by
   have e := a8d hp.1 (List.mem_cons_self (a := x) (l := p))
   rw [h] at e
   exact absurd e.symm (hp.2 x (.head _))
 | x :: p, y :: q, hp, hq, h => by
   obtain ⟨p1, p2⟩ := List.pairwise_cons.mp hp.1
   obtain ⟨q1, q2⟩ := List.pairwise_cons.mp hq.1
   have ex := a8d hp.1 (List.mem_cons_self (a := x) (l := p))
   have ey := a8d hq.1 (List.mem_cons_self (a := y) (l := q))
   have nx := hp.2 x (.head _)
   have ny := hq.2 y (.head _)
   have e1 : x.1 = y.1 := by
    rcases Int.lt_trichotomy x.1 y.1 with z | z | z
    ·rw [h, a3g] at ex
     ·exact absurd ex.symm nx
     ·intro w hw
      rcases List.mem_cons.mp hw with e | e
      ·rw [e]; exact Int.ne_of_gt z
      ·exact Int.ne_of_gt (Int.lt_trans z (q1 w e))
    ·exact z
    ·rw [← h, a3g] at ey
     ·exact absurd ey.symm ny
     ·intro w hw
      rcases List.mem_cons.mp hw with e | e
      ·rw [e]; exact Int.ne_of_gt z
      ·exact Int.ne_of_gt (Int.lt_trans z (p1 w e))
   have e2 : x.2 = y.2 := by rw [← ex, ← ey, e1, h]
   have exy : x = y := Prod.ext e1 e2
   subst exy
   refine congrArg (x :: ·) (a3y ⟨p2, fun z hz => hp.2 z (.tail _ hz)⟩ ⟨q2, fun z hz => hq.2 z (.tail _ hz)⟩ fun k => ?_)
   have := h k
   have t : (if x.1 = k then x.2 else 0) + co p k = (if x.1 = k then x.2 else 0) + co q k := this
   lia
noncomputable def putP (k c : Int) : Po → Po
 | [] => if c = 0 then [] else [(k, c)]
 | x :: r => if k < x.1 then (if c = 0 then x :: r else (k, c) :: x :: r) else if k = x.1 then (if x.2 + c = 0 then r else (k, x.2 + c) :: r) else x :: putP k c r
noncomputable def norm : Po → Po
 | [] => []
 | x :: r => putP x.1 x.2 (norm r)
noncomputable def N1 : Po → Nat
 | [] => 0
 | x :: r => x.2.natAbs + N1 r
theorem b2W (k c : Int) : ∀ (p : Po) (j : Int), co (putP k c p) j = (if k = j then c else 0) + co p j
 | [], j => by
   show co (if c = 0 then [] else [(k, c)]) j = (if k = j then c else 0) + 0
   by_cases h : c = 0
   ·rw [if_pos h, h]
    show 0 = (if k = j then 0 else 0) + 0
    split <;> rfl
   ·rw [if_neg h]; rfl
 | x :: r, j => by
   show co (if k < x.1 then (if c = 0 then x :: r else (k, c) :: x :: r) else if k = x.1 then (if x.2 + c = 0 then r else (k, x.2 + c) :: r) else x :: putP k c r) j = (if k = j then c else 0) + ((if x.1 = j then x.2 else 0) + co r j)
   by_cases h1 : k < x.1
   ·rw [if_pos h1]
    by_cases h : c = 0
    ·rw [if_pos h, h]
     show (if x.1 = j then x.2 else 0) + co r j = _
     split <;> split <;> lia
    ·rw [if_neg h]; rfl
   ·rw [if_neg h1]
    by_cases h2 : k = x.1
    ·rw [if_pos h2]
     by_cases h : x.2 + c = 0
     ·rw [if_pos h]
      split <;> split <;> lia
     ·rw [if_neg h]
      show (if k = j then x.2 + c else 0) + co r j = _
      split <;> split <;> lia
    ·rw [if_neg h2]
     show (if x.1 = j then x.2 else 0) + co (putP k c r) j = _
     rw [b2W k c r j]; lia
theorem b1I {k c m : Int} (hk : m < k) : ∀ {p : Po}, (∀ x ∈ p, m < x.1) → ∀ x ∈ putP k c p, m < x.1
 | [], _, x, hx => by
   have hx : x ∈ (if c = 0 then [] else [(k, c)]) := hx
   split at hx
   ·cases hx
   ·rw [List.mem_singleton.mp hx]; exact hk
 | y :: r, h, x, hx => by
   have hx : x ∈ (if k < y.1 then (if c = 0 then y :: r else (k, c) :: y :: r) else if k = y.1 then (if y.2 + c = 0 then r else (k, y.2 + c) :: r) else y :: putP k c r) := hx
   split at hx
   ·split at hx
    ·exact h x hx
    ·rcases List.mem_cons.mp hx with e | e
     ·rw [e]; exact hk
     ·exact h x e
   ·split at hx
    ·split at hx
     ·exact h x (.tail _ hx)
     ·rcases List.mem_cons.mp hx with e | e
      ·rw [e]; exact hk
      ·exact h x (.tail _ e)
    ·rcases List.mem_cons.mp hx with e | e
     ·rw [e]; exact h y (.head _)
     ·exact b1I hk (fun z hz => h z (.tail _ hz)) x e
theorem a8f (k c : Int) : ∀ {p : Po}, CanP p → CanP (putP k c p)
 | [], _ => by
   show CanP (if c = 0 then [] else [(k, c)])
   split
   ·exact ⟨.nil, fun _ h => absurd h List.not_mem_nil⟩
   ·rename_i h
    exact ⟨List.pairwise_singleton _ _, fun x hx => by rw [List.mem_singleton.mp hx]; exact h⟩
 | y :: r, h => by
   obtain ⟨h1, h2⟩ := List.pairwise_cons.mp h.1
   show CanP (if k < y.1 then (if c = 0 then y :: r else (k, c) :: y :: r) else if k = y.1 then (if y.2 + c = 0 then r else (k, y.2 + c) :: r) else y :: putP k c r)
   split
   ·rename_i a
    split
    ·exact h
    ·rename_i b
     refine ⟨List.pairwise_cons.mpr ⟨fun z hz => ?_, h.1⟩, fun z hz => ?_⟩
     ·rcases List.mem_cons.mp hz with e | e
      ·rw [e]; exact a
      ·exact Int.lt_trans a (h1 z e)
     ·rcases List.mem_cons.mp hz with e | e
      ·rw [e]; exact b
      ·exact h.2 z e
   ·split
    ·rename_i a b
     split
     ·exact ⟨h2, fun z hz => h.2 z (.tail _ hz)⟩
     ·rename_i d
      refine ⟨List.pairwise_cons.mpr ⟨fun z hz => by rw [b]; exact h1 z hz, h2⟩, fun z hz => ?_⟩
      rcases List.mem_cons.mp hz with e | e
      ·rw [e]; exact d
      ·exact h.2 z (.tail _ e)
    ·rename_i a b
     have ih := a8f k c (p := r) ⟨h2, fun z hz => h.2 z (.tail _ hz)⟩
     refine ⟨List.pairwise_cons.mpr ⟨fun z hz => b1I (by lia) h1 z hz, ih.1⟩, fun z hz => ?_⟩
     rcases List.mem_cons.mp hz with e | e
     ·rw [e]; exact h.2 y (.head _)
     ·exact ih.2 z e
theorem b3m (k c : Int) : ∀ p : Po, N1 (putP k c p) ≤ c.natAbs + N1 p
 | [] => by
   show N1 (if c = 0 then [] else [(k, c)]) ≤ c.natAbs + 0
   split
   ·exact Nat.zero_le _
   ·exact Nat.le_refl _
 | x :: r => by
   have ih := b3m k c r
   show N1 (if k < x.1 then (if c = 0 then x :: r else (k, c) :: x :: r) else if k = x.1 then (if x.2 + c = 0 then r else (k, x.2 + c) :: r) else x :: putP k c r) ≤ c.natAbs + (x.2.natAbs + N1 r)
   split
   ·split
    ·show x.2.natAbs + N1 r ≤ _; lia
    ·exact Nat.le_refl _
   ·split
    ·split
     ·lia
     ·show (x.2 + c).natAbs + N1 r ≤ _; lia
    ·show x.2.natAbs + N1 (putP k c r) ≤ _; lia
theorem a2d : ∀ (p : Po) (k : Int), co (norm p) k = co p k
 | [], _ => rfl
 | x :: r, k => by
   show co (putP x.1 x.2 (norm r)) k = (if x.1 = k then x.2 else 0) + co r k
   rw [b2W, a2d r]
theorem a1c : ∀ p : Po, CanP (norm p)
 | [] => ⟨.nil, fun _ h => absurd h List.not_mem_nil⟩
 | x :: r => a8f x.1 x.2 (a1c r)
theorem b3n : ∀ p : Po, N1 (norm p) ≤ N1 p
 | [] => Nat.le_refl _
 | x :: r => Nat.le_trans (b3m x.1 x.2 (norm r)) (Nat.add_le_add_left (b3n r) _)
theorem b3o (p q : Po) : N1 (p ++ q) = N1 p + N1 q := by
 induction p with
 | nil => show N1 q = 0 + N1 q; lia
 | cons x r ih => show x.2.natAbs + N1 (r ++ q) = x.2.natAbs + N1 r + N1 q; lia
theorem a9v {k c : Int} : ∀ {p : Po}, ∀ x ∈ putP k c p, x.1 = k ∨ ∃ y ∈ p, y.1 = x.1
 | [], x, hx => by
   have hx : x ∈ (if c = 0 then [] else [(k, c)]) := hx
   split at hx
   ·cases hx
   ·rw [List.mem_singleton.mp hx]; exact .inl rfl
 | y :: r, x, hx => by
   have hx : x ∈ (if k < y.1 then (if c = 0 then y :: r else (k, c) :: y :: r) else if k = y.1 then (if y.2 + c = 0 then r else (k, y.2 + c) :: r) else y :: putP k c r) := hx
   split at hx
   ·split at hx
    ·exact .inr ⟨x, hx, rfl⟩
    ·rcases List.mem_cons.mp hx with e | e
     ·rw [e]; exact .inl rfl
     ·exact .inr ⟨x, e, rfl⟩
   ·split at hx
    ·split at hx
     ·exact .inr ⟨x, .tail _ hx, rfl⟩
     ·rcases List.mem_cons.mp hx with e | e
      ·rw [e]; exact .inl rfl
      ·exact .inr ⟨x, .tail _ e, rfl⟩
    ·rcases List.mem_cons.mp hx with e | e
     ·rw [e]; exact .inr ⟨y, .head _, rfl⟩
     ·rcases a9v x e with z | ⟨z, hz, ez⟩
      ·exact .inl z
      ·exact .inr ⟨z, .tail _ hz, ez⟩
theorem a9H : ∀ {p : Po}, ∀ x ∈ norm p, ∃ y ∈ p, y.1 = x.1
 | [], x, hx => by cases hx
 | y :: r, x, hx => by
   rcases a9v (k := y.1) (c := y.2) (p := norm r) x hx with z | ⟨z, hz, ez⟩
   ·exact ⟨y, .head _, z.symm⟩
   ·obtain ⟨u, hu, eu⟩ := a9H z hz
    exact ⟨u, .tail _ hu, eu.trans ez⟩
noncomputable def addP (p q : Po) : Po := norm (p ++ q)
noncomputable def rawM (p q : Po) : Po := p.flatMap fun a => q.map fun b => (a.1 + b.1, a.2 * b.2)
noncomputable def a0Z (p q : Po) : Po := norm (rawM p q)
theorem b5g (a : Int × Int) : ∀ q : Po, N1 (q.map fun b => (a.1 + b.1, a.2 * b.2)) = a.2.natAbs * N1 q
 | [] => rfl
 | b :: q => by
   show (a.2 * b.2).natAbs + N1 (q.map fun b => (a.1 + b.1, a.2 * b.2)) = a.2.natAbs * (b.2.natAbs + N1 q)
   rw [b5g a q, Int.natAbs_mul, Nat.mul_add]
theorem b5h (q : Po) : ∀ p : Po, N1 (rawM p q) = N1 p * N1 q
 | [] => (Nat.zero_mul _).symm
 | a :: p => by
   show N1 ((q.map fun b => (a.1 + b.1, a.2 * b.2)) ++ rawM p q) = (a.2.natAbs + N1 p) * N1 q
   rw [b3o, b5g, b5h q p, Nat.add_mul]
theorem b6V (p q : Po) : N1 (a0Z p q) ≤ N1 p * N1 q := Nat.le_trans (b3n _) (Nat.le_of_eq (b5h q p))
theorem b8Z {p : Po} {x : Int × Int} (h : x ∈ p) : x.2.natAbs ≤ N1 p := by
 induction p with
 | nil => cases h
 | cons y r ih =>
   show _ ≤ y.2.natAbs + N1 r
   rcases List.mem_cons.mp h with e | e
   ·rw [e]; lia
   ·have := ih e; lia
noncomputable def prT (x : Int × Int) : T := .tup [.int x.1, .int x.2]
noncomputable def poT (p : Po) : T := .tup (p.map prT)
noncomputable def dkI (m : Po) : List (Key × T) := m.map fun x => (.inl x.1, .int x.2)
theorem b4q (m : Po) : (dkI m).map b6e = m.map prT := by unfold dkI; rw [List.map_map]; rfl
theorem b0b (m : Po) : (dkI m).map Prod.fst = (m.map Prod.fst).map Sum.inl := by unfold dkI; rw [List.map_map, List.map_map]; rfl
theorem b2O (m : Po) : (dkI m).length = m.length := by unfold dkI; rw [List.length_map]
noncomputable def setP (k v : Int) : Po → Po
 | [] => [(k, v)]
 | x :: r => if x.1 = k then (k, v) :: r else x :: setP k v r
theorem a5e (k v : Int) : ∀ m : Po, (setP k v m).map Prod.fst = if k ∈ m.map Prod.fst then m.map Prod.fst else m.map Prod.fst ++ [k]
 | [] => rfl
 | x :: r => by
   show ((if x.1 = k then (k, v) :: r else x :: setP k v r).map Prod.fst) = _
   by_cases h : x.1 = k
   ·rw [if_pos h, if_pos (by rw [List.map_cons, h]; exact .head _), List.map_cons, List.map_cons, h]
   ·rw [if_neg h, List.map_cons, a5e k v r, List.map_cons]
    by_cases g : k ∈ r.map Prod.fst
    ·rw [if_pos g, if_pos (.tail _ g)]
    ·rw [if_neg g, if_neg (fun z => (List.mem_cons.mp z).elim (fun e => h e.symm) g)]; rfl
theorem a6c {k v : Int} {m : Po} (h : (m.map Prod.fst).Nodup) : ((setP k v m).map Prod.fst).Nodup := by
 rw [a5e]
 split
 ·exact h
 ·rename_i g
  rw [List.nodup_append]
  exact ⟨h, List.pairwise_singleton _ _, fun a ha b hb => by rw [List.mem_singleton.mp hb]; exact fun z => g (z ▸ ha)⟩
theorem a6F {k v : Int} : ∀ {m : Po}, (m.map Prod.fst).Nodup → putT (dkI m) (.inl k) (.int v) = dkI (setP k v m)
 | [], _ => rfl
 | x :: r, h => by
   rw [List.map_cons, List.nodup_cons] at h
   have ih := a6F (k := k) (v := v) h.2
   show putT ((.inl x.1, .int x.2) :: dkI r) (.inl k) (.int v) = dkI (if x.1 = k then (k, v) :: r else x :: setP k v r)
   by_cases e : x.1 = k
   ·rw [if_pos e]
    unfold putT
    rw [if_pos (by rw [List.any_cons, decide_eq_true (show (Sum.inl x.1 : Key) = .inl k by rw [e])]; rfl)]
    rw [List.map_cons, if_pos (show (Sum.inl x.1 : Key) = .inl k by rw [e])]
    show _ = (Sum.inl k, T.int v) :: dkI r
    rw [e]
    congr 1
    unfold dkI
    rw [List.map_map]
    refine List.map_congr_left fun y hy => ?_
    show (if (Sum.inl y.1 : Key) = .inl k then ((Sum.inl y.1 : Key), T.int v) else (Sum.inl y.1, T.int y.2)) = _
    rw [if_neg (fun z => h.1 (by rw [e, ← Sum.inl.inj z]; exact List.mem_map.mpr ⟨y, hy, rfl⟩))]
   ·have ne : ¬ (Sum.inl x.1 : Key) = .inl k := fun z => e (Sum.inl.inj z)
    rw [if_neg e]
    show _ = (Sum.inl x.1, T.int x.2) :: dkI (setP k v r)
    rw [← ih]
    unfold putT
    rw [List.any_cons, decide_eq_false ne, Bool.false_or]
    split
    ·rw [List.map_cons, if_neg ne]
    ·rfl
theorem a6p (k : Int) : ∀ {m : Po}, (m.map Prod.fst).Nodup → (valT (dkI m) (.inl k)).getD (.int 0) = .int (co m k)
 | [], _ => rfl
 | x :: r, h => by
   rw [List.map_cons, List.nodup_cons] at h
   show (valT ((.inl x.1, .int x.2) :: dkI r) (.inl k)).getD (.int 0) = .int ((if x.1 = k then x.2 else 0) + co r k)
   rw [a7l]
   by_cases e : x.1 = k
   ·rw [if_pos (show (Sum.inl x.1 : Key) = .inl k by rw [e]), if_pos e, a3g (fun y hy z => h.1 (by rw [e, ← z]; exact List.mem_map.mpr ⟨y, hy, rfl⟩)), Int.add_zero]; rfl
   ·rw [if_neg (fun z => e (Sum.inl.inj z)), if_neg e, Int.zero_add]
    exact a6p k h.2
theorem a4I {k : Int} : ∀ {m : Po}, (m.map Prod.fst).Nodup → k ∈ m.map Prod.fst → valT (dkI m) (.inl k) = some (.int (co m k))
 | [], _, z => by cases z
 | x :: r, h, z => by
   rw [List.map_cons, List.nodup_cons] at h
   show valT ((.inl x.1, .int x.2) :: dkI r) (.inl k) = some (.int ((if x.1 = k then x.2 else 0) + co r k))
   rw [a7l]
   by_cases e : x.1 = k
   ·rw [if_pos (show (Sum.inl x.1 : Key) = .inl k by rw [e]), if_pos e, a3g (fun y hy z => h.1 (by rw [e, ← z]; exact List.mem_map.mpr ⟨y, hy, rfl⟩)), Int.add_zero]
   ·rw [if_neg (fun z => e (Sum.inl.inj z)), if_neg e, Int.zero_add]
    rw [List.map_cons] at z
    exact a4I h.2 ((List.mem_cons.mp z).resolve_left fun y => e y.symm)
theorem a9g (k v : Int) : ∀ {m : Po}, (m.map Prod.fst).Nodup → ∀ j, co (setP k v m) j = if j = k then v else co m j
 | [], _, j => by
   show (if k = j then v else 0) + 0 = if j = k then v else 0
   by_cases e : j = k
   ·rw [if_pos e, if_pos e.symm]; lia
   ·rw [if_neg e, if_neg (fun z => e z.symm)]; rfl
 | x :: r, h, j => by
   rw [List.map_cons, List.nodup_cons] at h
   show co (if x.1 = k then (k, v) :: r else x :: setP k v r) j = if j = k then v else (if x.1 = j then x.2 else 0) + co r j
   by_cases e : x.1 = k
   ·rw [if_pos e]
    show (if k = j then v else 0) + co r j = _
    by_cases f : j = k
    ·rw [if_pos f, if_pos f.symm, a3g (fun y hy z => h.1 (by rw [e, ← f, ← z]; exact List.mem_map.mpr ⟨y, hy, rfl⟩))]; lia
    ·rw [if_neg f, if_neg (fun z => f z.symm), if_neg (fun z => f (z.symm.trans e))]
   ·rw [if_neg e]
    show (if x.1 = j then x.2 else 0) + co (setP k v r) j = _
    rw [a9g k v h.2 j]
    by_cases f : j = k
    ·rw [if_pos f, if_pos f, if_neg (fun z => e (z.trans f))]; lia
    ·rw [if_neg f, if_neg f]
theorem a8P {m : Po} {ms : List Int} (hm : (m.map Prod.fst).Nodup) (hp : ms.Perm (m.map Prod.fst)) (hs : ms.Pairwise (· ≤ ·)) : ((ms.filter fun k => decide (co m k ≠ 0)).map fun k => (k, co m k)) = norm m := by
 have hnd : ms.Nodup := hp.nodup_iff.mpr hm
 have hst : ms.Pairwise (· < ·) := hs.imp₂ (fun a b h1 h2 => Int.lt_iff_le_and_ne.mpr ⟨h1, h2⟩) hnd
 have hc : CanP ((ms.filter fun k => decide (co m k ≠ 0)).map fun k => (k, co m k)) := by
  refine ⟨List.pairwise_map.mpr (hst.filter _), fun x hx => ?_⟩
  obtain ⟨k, hk, rfl⟩ := List.mem_map.mp hx
  exact of_decide_eq_true (List.mem_filter.mp hk).2
 refine a3y hc (a1c m) fun k => ?_
 rw [a2d]
 by_cases h : k ∈ ms ∧ co m k ≠ 0
 ·exact a8d hc.1 (x := (k, co m k)) (List.mem_map.mpr ⟨k, List.mem_filter.mpr ⟨h.1, decide_eq_true h.2⟩, rfl⟩)
 ·rw [a3g]
  ·by_cases g : k ∈ ms
   ·exact (Classical.not_not.mp fun z => h ⟨g, z⟩).symm
   ·exact (a3g fun x hx z => g (hp.mem_iff.mpr (List.mem_map.mpr ⟨x, hx, z⟩))).symm
  ·intro x hx z
   obtain ⟨j, hj, rfl⟩ := List.mem_map.mp hx
   obtain rfl : j = k := z
   exact h ⟨(List.mem_filter.mp hj).1, of_decide_eq_true (List.mem_filter.mp hj).2⟩
theorem a2z {K : PySem.W.Frag} {H : Hp} : Reps K H [] [] := by unfold Reps; rfl
theorem a0Y {K : PySem.W.Frag} {H : Hp} {v : V} {t : T} {vs : List V} {ts : List T} (a : Rep K H v t) (b : Reps K H vs ts) : Reps K H (v :: vs) (t :: ts) := by unfold Reps; exact ⟨v, vs, rfl, a, b⟩
theorem a2A {K : PySem.W.Frag} {H : Hp} {u : Addr} {xs : List V} {its : Array Value} {n : Nat} {sl : Array (Option Value)} {ts : List T} (l : K.lookup u = some ⟨.type "tuple", none, .seq its n, sl⟩) (hz : its.size ≤ 1000) (v : Vals xs its.toList) (r : Reps K H xs ts) : Rep K H (.ref u) (.tup ts) :=
 a1f (.inr ⟨_, its, n, l, rfl, rfl, rfl, by rw [sizeLine_eq]; lia, v⟩) r
section
variable {X : Cx}
theorem a3Q {x : Str} {a : Addr} {t : T} {pos : Pos} (c : X.mg x = some (.ref a) ∧ ∀ H, Rep X.K H (.ref a) t) (hg : Gl X x := by rfl) (hd : (x == ("__debug__" : Str)) = false := by decide) : HE X (.Name x pos) (tK t) := fun ρ M Q q => (b1N (v := .ref a) hg c.1 rfl hd).imp fun σ H Q2 ⟨hr, hh, en⟩ => en t _ M H Kp.refl hh (c.2 H) q
end
section
variable {X : Cx} {a b e : Expr} {pos : Pos}
end
section
variable {X : Cx} {Ha : Hp} {e : Expr} {te : TE3} {pos : Pos}
end
section
variable {X : Cx}
end
section
variable {X : Cx}
end
section
variable {X : Cx}
end
section
variable {X : Cx}
end
noncomputable def cv : Po → (Int → Int) → Int → Int
 | [], _, _ => 0
 | x :: a, f, c => x.2 * f (c - x.1) + cv a f c
theorem b0g (x : Int × Int) (c : Int) : ∀ b : Po, co (b.map fun y => (x.1 + y.1, x.2 * y.2)) c = x.2 * co b (c - x.1)
 | [] => by show (0 : Int) = x.2 * 0; rw [Int.mul_zero]
 | y :: b => by
   show (if x.1 + y.1 = c then x.2 * y.2 else 0) + co (b.map fun y => (x.1 + y.1, x.2 * y.2)) c = x.2 * ((if y.1 = c - x.1 then y.2 else 0) + co b (c - x.1))
   rw [b0g x c b, Int.mul_add]
   by_cases h : x.1 + y.1 = c
   ·rw [if_pos h, if_pos (by lia)]
   ·rw [if_neg h, if_neg (by lia), Int.mul_zero]
theorem b0h (b : Po) (c : Int) : ∀ a : Po, co (rawM a b) c = cv a (co b) c
 | [] => rfl
 | x :: a => by
   show co ((b.map fun y => (x.1 + y.1, x.2 * y.2)) ++ rawM a b) c = x.2 * co b (c - x.1) + cv a (co b) c
   rw [a1b, b0g, b0h b c a]
theorem b5a (c : Int) : ∀ a : Po, cv a (co []) c = 0
 | [] => rfl
 | x :: a => by
   show x.2 * 0 + cv a (co []) c = 0
   rw [b5a c a]; lia
theorem b4Z (c : Int) : ∀ a : Po, cv a (co [(0, 1)]) c = co a c
 | [] => rfl
 | x :: a => by
   show x.2 * ((if (0 : Int) = c - x.1 then 1 else 0) + 0) + cv a (co [(0, 1)]) c = (if x.1 = c then x.2 else 0) + co a c
   rw [b4Z c a]
   by_cases h : x.1 = c
   ·rw [if_pos h, if_pos (by lia)]; lia
   ·rw [if_neg h, if_neg (by lia)]; lia
theorem a8b (f : Int → Int) (c : Int) : ∀ p q : Po, cv (p ++ q) f c = cv p f c + cv q f c
 | [], q => by show cv q f c = 0 + cv q f c; lia
 | x :: p, q => by
   show x.2 * f (c - x.1) + cv (p ++ q) f c = x.2 * f (c - x.1) + cv p f c + cv q f c
   rw [a8b f c p q]; lia
theorem b5c (f g : Int → Int) (c : Int) : ∀ p : Po, cv p (fun c => f c + g c) c = cv p f c + cv p g c
 | [] => rfl
 | x :: p => by
   show x.2 * (f (c - x.1) + g (c - x.1)) + cv p (fun c => f c + g c) c = (x.2 * f (c - x.1) + cv p f c) + (x.2 * g (c - x.1) + cv p g c)
   rw [b5c f g c p, Int.mul_add]; lia
theorem b0f (x : Int × Int) (f : Int → Int) (c : Int) : ∀ q : Po, cv (q.map fun y => (x.1 + y.1, x.2 * y.2)) f c = x.2 * cv q f (c - x.1)
 | [] => by show (0 : Int) = x.2 * 0; rw [Int.mul_zero]
 | y :: q => by
   show x.2 * y.2 * f (c - (x.1 + y.1)) + cv (q.map fun y => (x.1 + y.1, x.2 * y.2)) f c = x.2 * (y.2 * f (c - x.1 - y.1) + cv q f (c - x.1))
   rw [b0f x f c q, Int.mul_add, Int.mul_assoc, show c - (x.1 + y.1) = c - x.1 - y.1 by lia]
theorem b4Y (q : Po) (f : Int → Int) (c : Int) : ∀ p : Po, cv (rawM p q) f c = cv p (cv q f) c
 | [] => rfl
 | x :: p => by
   show cv ((q.map fun y => (x.1 + y.1, x.2 * y.2)) ++ rawM p q) f c = x.2 * cv q f (c - x.1) + cv p (cv q f) c
   rw [a8b, b0f, b4Y q f c p]
theorem b2T (k v : Int) (f : Int → Int) (c : Int) : ∀ p : Po, cv (putP k v p) f c = v * f (c - k) + cv p f c
 | [] => by
   show cv (if v = 0 then [] else [(k, v)]) f c = v * f (c - k) + 0
   split
   ·rename_i h; subst h; show (0 : Int) = _; rw [Int.zero_mul]; rfl
   ·rfl
 | x :: r => by
   have ih := b2T k v f c r
   show cv (if k < x.1 then (if v = 0 then x :: r else (k, v) :: x :: r) else if k = x.1 then (if x.2 + v = 0 then r else (k, x.2 + v) :: r) else x :: putP k v r) f c = _
   split
   ·split
    ·rename_i h; subst h; rw [Int.zero_mul, Int.zero_add]
    ·rfl
   ·split
    ·rename_i h; subst h
     split
     ·rename_i h
      show cv r f c = v * f (c - x.1) + (x.2 * f (c - x.1) + cv r f c)
      rw [← Int.add_assoc, ← Int.add_mul, show v + x.2 = 0 by lia, Int.zero_mul, Int.zero_add]
     ·show (x.2 + v) * f (c - x.1) + cv r f c = v * f (c - x.1) + (x.2 * f (c - x.1) + cv r f c)
      rw [Int.add_mul]; lia
    ·show x.2 * f (c - x.1) + cv (putP k v r) f c = v * f (c - k) + (x.2 * f (c - x.1) + cv r f c)
     rw [ih]; lia
theorem a9e (f : Int → Int) (c : Int) : ∀ p : Po, cv (norm p) f c = cv p f c
 | [] => rfl
 | x :: p => by
   show cv (putP x.1 x.2 (norm p)) f c = x.2 * f (c - x.1) + cv p f c
   rw [b2T, a9e f c p]
theorem a5C (x : Int × Int) (p : Po) (c : Int) : ∀ q : Po, co (rawM q (x :: p)) c = co (q.map fun y => (x.1 + y.1, x.2 * y.2)) c + co (rawM q p) c
 | [] => rfl
 | y :: q => by
   show co (((y.1 + x.1, y.2 * x.2) :: p.map fun b => (y.1 + b.1, y.2 * b.2)) ++ rawM q (x :: p)) c = ((if x.1 + y.1 = c then x.2 * y.2 else 0) + co (q.map fun y => (x.1 + y.1, x.2 * y.2)) c) + co ((p.map fun b => (y.1 + b.1, y.2 * b.2)) ++ rawM q p) c
   rw [a1b, a1b, a5C x p c q]
   show ((if y.1 + x.1 = c then y.2 * x.2 else 0) + _) + _ = _
   rw [Int.add_comm y.1, Int.mul_comm y.2]; lia
theorem a5D (c : Int) (q : Po) : ∀ p : Po, co (rawM p q) c = co (rawM q p) c
 | [] => by
   have : ∀ q : Po, rawM q [] = [] := fun q => by
    induction q with
    | nil => rfl
    | cons y q ih => show [] ++ rawM q [] = []; rw [ih]; rfl
   rw [this]; rfl
 | x :: p => by
   show co ((q.map fun y => (x.1 + y.1, x.2 * y.2)) ++ rawM p q) c = _
   rw [a1b, a5C, a5D c q p]
theorem b2Y (p q : Po) (c : Int) : co (addP p q) c = co p c + co q c := by unfold addP; rw [a2d, a1b]
theorem a9h (p q : Po) (c : Int) : co (a0Z p q) c = cv p (co q) c := by unfold a0Z; rw [a2d, b0h]
noncomputable abbrev Lp := {p : Po // CanP p}
noncomputable def toL (p : Po) : Lp := ⟨norm p, a1c p⟩
theorem b1k {p q : Po} (h : ∀ c, co p c = co q c) : toL p = toL q := Subtype.ext (a3y (a1c p) (a1c q) fun c => (a2d p c).trans ((h c).trans (a2d q c).symm))
noncomputable instance : Add Lp := ⟨fun p q => toL (addP p.1 q.1)⟩
noncomputable instance : Mul Lp := ⟨fun p q => toL (a0Z p.1 q.1)⟩
noncomputable def zL : Lp := toL []
noncomputable def eL : Lp := toL [(0, 1)]
theorem Lp.ext2 {p q : Lp} (h : ∀ c, co p.1 c = co q.1 c) : p = q := Subtype.ext (a3y p.2 q.2 h)
theorem co_L (p : Po) (c : Int) : co (toL p).1 c = co p c := a2d p c
theorem a1p (p q : Lp) (c : Int) : co (p + q).1 c = co p.1 c + co q.1 c := (co_L _ c).trans (b2Y _ _ c)
theorem a1u (p q : Lp) (c : Int) : co (p * q).1 c = cv p.1 (co q.1) c := (co_L _ c).trans (a9h _ _ c)
theorem cv_L (p : Po) (f : Int → Int) (c : Int) : cv (toL p).1 f c = cv p f c := a9e f c p
theorem a6s (p q : Po) : toL (addP p q) = toL p + toL q := Lp.ext2 fun c => by rw [a1p, co_L, b2Y, co_L, co_L]
theorem a2t (p q : Po) : toL (a0Z p q) = toL p * toL q := Lp.ext2 fun c => by
 rw [a1u, co_L, a9h, cv_L]
 have e : co (toL q).1 = co q := funext fun c => co_L q c
 rw [e]
theorem a8q (p q : Lp) : p + q = q + p := Lp.ext2 fun c => by rw [a1p, a1p]; lia
theorem a6m (p q r : Lp) : p + q + r = p + (q + r) := Lp.ext2 fun c => by rw [a1p, a1p, a1p, a1p]; lia
theorem b8W (p : Lp) : p + zL = p := Lp.ext2 fun c => by
 rw [a1p]; show co p.1 c + co (norm []) c = co p.1 c
 rw [a2d]; show _ + 0 = _; lia
theorem a1a (p q : Lp) : p * q = q * p := Lp.ext2 fun c => by rw [a1u, a1u, ← b0h, ← b0h, a5D]
theorem a4w (p q r : Lp) : p * q * r = p * (q * r) := Lp.ext2 fun c => by
 rw [a1u, a1u]
 have e : co (q * r).1 = cv q.1 (co r.1) := funext fun c => a1u q r c
 rw [e, ← b4Y]
 show cv (toL (a0Z p.1 q.1)).1 (co r.1) c = _
 rw [cv_L]; unfold a0Z; rw [a9e]
theorem b2e (p : Lp) : p * eL = p := Lp.ext2 fun c => by
 rw [a1u]
 have e : co eL.1 = co [(0, 1)] := funext fun c => co_L _ c
 rw [e, b4Z]
theorem b2d (p : Lp) : p * zL = zL := Lp.ext2 fun c => by
 rw [a1u]
 have e : co zL.1 = co [] := funext fun c => co_L _ c
 rw [e, b5a]; rfl
theorem b6F (p q r : Lp) : p * (q + r) = p * q + p * r := Lp.ext2 fun c => by
 rw [a1u, a1p, a1u, a1u, ← b5c]
 have e : co (q + r).1 = fun c => co q.1 c + co r.1 c := funext fun c => a1p q r c
 rw [e]
instance : Std.Associative (α := Lp) (· * ·) := ⟨a4w⟩
instance : Std.Commutative (α := Lp) (· * ·) := ⟨a1a⟩
instance : Std.Associative (α := Lp) (· + ·) := ⟨a6m⟩
instance : Std.Commutative (α := Lp) (· + ·) := ⟨a8q⟩
noncomputable def sgU (s : Int) : Lp := toL [(0, s)]
theorem a8c (s c : Int) : co [(0, s)] c = if 0 = c then s else 0 := by
 show (if (0 : Int) = c then s else 0) + 0 = _
 rw [Int.add_zero]
theorem b1w (a b : Int) : sgU a * sgU b = sgU (a * b) := by
 unfold sgU
 rw [← a2t]
 refine b1k fun c => ?_
 rw [a9h, a8c]
 show a * co [(0, b)] (c - 0) + 0 = _
 rw [Int.sub_zero, a8c]
 by_cases h : (0 : Int) = c
 ·rw [if_pos h, if_pos h, Int.add_zero]
 ·rw [if_neg h, if_neg h, Int.mul_zero, Int.add_zero]
section
variable {P : Program} {w : World} {A : Around} {E : Value → Shared → Prop} {s : Shared}
end
section
variable {X : Cx}
end
noncomputable def Sml (p : Po) : Prop := ∀ x ∈ p, x.2.natAbs < 2 ^ 64
theorem b0p : toL [(0, 0)] = zL := Lp.ext2 fun c => by
 rw [co_L]
 show (if (0 : Int) = c then (0 : Int) else 0) + 0 = co (toL []).1 c
 rw [co_L]
 split <;> rfl
noncomputable instance : NatCast Lp := ⟨fun n => sgU n⟩
noncomputable instance {n : Nat} : OfNat Lp n := ⟨sgU n⟩
noncomputable instance : IntCast Lp := ⟨sgU⟩
noncomputable instance : Neg Lp := ⟨fun a => sgU (-1) * a⟩
noncomputable instance : _root_.Sub Lp := ⟨fun a b => a + sgU (-1) * b⟩
noncomputable instance : SMul Nat Lp := ⟨fun n a => sgU n * a⟩
noncomputable instance : SMul Int Lp := ⟨fun n a => sgU n * a⟩
noncomputable def powL (a : Lp) : Nat → Lp
 | 0 => sgU 1
 | n + 1 => powL a n * a
noncomputable instance : HPow Lp Nat Lp := ⟨powL⟩
theorem b1x (a b : Int) : sgU (a + b) = sgU a + sgU b := Lp.ext2 fun c => by
 unfold sgU
 rw [a1p, co_L, co_L, co_L, a8c, a8c, a8c]
 split <;> lia
theorem b0t : sgU 0 = zL := b0p
noncomputable instance : Lean.Grind.CommRing Lp where
 add_zero a := by show a + sgU ((0 : Nat) : Int) = a; exact (by rw [show ((0 : Nat) : Int) = 0 from rfl, b0t, b8W])
 add_comm := a8q
 add_assoc := a6m
 mul_assoc := a4w
 mul_one a := by show a * sgU ((1 : Nat) : Int) = a; exact b2e a
 one_mul a := by show sgU ((1 : Nat) : Int) * a = a; rw [a1a]; exact b2e a
 left_distrib := b6F
 right_distrib a b c := by rw [a1a, b6F, a1a c, a1a c]
 zero_mul a := by show sgU ((0 : Nat) : Int) * a = sgU ((0 : Nat) : Int); rw [show ((0 : Nat) : Int) = 0 from rfl, b0t, a1a, b2d]
 mul_zero a := by show a * sgU ((0 : Nat) : Int) = sgU ((0 : Nat) : Int); rw [show ((0 : Nat) : Int) = 0 from rfl, b0t, b2d]
 pow_zero a := rfl
 pow_succ a n := rfl
 ofNat_succ n := by
  show sgU ((n + 1 : Nat) : Int) = sgU (n : Int) + sgU ((1 : Nat) : Int)
  rw [Int.natCast_add, b1x]
 ofNat_eq_natCast n := rfl
 nsmul_eq_natCast_mul n a := rfl
 neg_add_cancel a := by
  show sgU (-1) * a + a = sgU ((0 : Nat) : Int)
  have e : sgU (-1) * a + a = sgU (-1) * a + sgU 1 * a := by rw [show sgU 1 * a = a from by rw [a1a]; exact b2e a]
  rw [e, a1a, a1a (sgU 1), ← b6F, ← b1x, show (-1 : Int) + 1 = 0 by decide, b0t, b2d]
  exact b0t.symm
 sub_eq_add_neg a b := rfl
 neg_zsmul i a := by
  show sgU (-i) * a = sgU (-1) * (sgU i * a)
  rw [← a4w, b1w, show -1 * i = -i by lia]
 zsmul_natCast_eq_nsmul n a := rfl
 intCast_ofNat n := rfl
 intCast_neg i := by
  show sgU (-i) = sgU (-1) * sgU i
  rw [b1w, show -1 * i = -i by lia]
 mul_comm := a1a
theorem b5i : zL = (0 : Lp) := b0t.symm
section
variable {R : Type} [Lean.Grind.CommRing R]
end
theorem a4Y (k l s t : Int) : toL [(k, s)] * toL [(l, t)] = toL [(k + l, s * t)] := by
 rw [← a2t]
 refine b1k fun c => ?_
 unfold a0Z
 rw [a2d]
 rfl
noncomputable def evP (g : Int → Int) : Po → Int
 | [] => 0
 | x :: r => x.2 * g x.1 + evP g r
theorem a4D (g : Int → Int) : ∀ p q : Po, evP g (p ++ q) = evP g p + evP g q
 | [], q => by show evP g q = 0 + evP g q; lia
 | x :: p, q => by show x.2 * g x.1 + evP g (p ++ q) = x.2 * g x.1 + evP g p + evP g q; rw [a4D g p q]; lia
theorem a9W (g : Int → Int) (k c : Int) : ∀ p : Po, evP g (putP k c p) = c * g k + evP g p
 | [] => by
   show evP g (if c = 0 then [] else [(k, c)]) = c * g k + 0
   by_cases h : c = 0
   ·rw [if_pos h, h]; show (0 : Int) = 0 * g k + 0; lia
   ·rw [if_neg h]; rfl
 | x :: r => by
   show evP g (if k < x.1 then (if c = 0 then x :: r else (k, c) :: x :: r) else if k = x.1 then (if x.2 + c = 0 then r else (k, x.2 + c) :: r) else x :: putP k c r) = c * g k + (x.2 * g x.1 + evP g r)
   by_cases h1 : k < x.1
   ·rw [if_pos h1]
    by_cases h : c = 0
    ·rw [if_pos h, h]; show x.2 * g x.1 + evP g r = _; lia
    ·rw [if_neg h]; rfl
   ·rw [if_neg h1]
    by_cases h2 : k = x.1
    ·rw [if_pos h2, h2]
     have e : (x.2 + c) * g x.1 = x.2 * g x.1 + c * g x.1 := Int.add_mul ..
     by_cases h : x.2 + c = 0
     ·rw [if_pos h]
      rw [h, Int.zero_mul] at e
      lia
     ·rw [if_neg h]
      show (x.2 + c) * g x.1 + evP g r = _
      lia
    ·rw [if_neg h2]
     show x.2 * g x.1 + evP g (putP k c r) = _
     rw [a9W g k c r]; lia
theorem a5a (g : Int → Int) : ∀ p : Po, evP g (norm p) = evP g p
 | [] => rfl
 | x :: r => by show evP g (putP x.1 x.2 (norm r)) = x.2 * g x.1 + evP g r; rw [a9W, a5a g r]
theorem b4U (g : Int → Int) (hg : ∀ a b, g (a + b) = g a * g b) (x : Int × Int) : ∀ q : Po, evP g (q.map fun y => (x.1 + y.1, x.2 * y.2)) = x.2 * g x.1 * evP g q
 | [] => by show (0 : Int) = _ * 0; lia
 | y :: q => by
   show x.2 * y.2 * g (x.1 + y.1) + evP g (q.map fun y => (x.1 + y.1, x.2 * y.2)) = x.2 * g x.1 * (y.2 * g y.1 + evP g q)
   rw [b4U g hg x q, hg, Int.mul_add]
   congr 1
   grind
theorem b2H (g : Int → Int) (hg : ∀ a b, g (a + b) = g a * g b) (q : Po) : ∀ p : Po, evP g (rawM p q) = evP g p * evP g q
 | [] => by show (0 : Int) = 0 * _; lia
 | x :: p => by
   unfold rawM
   rw [List.flatMap_cons, a4D, b4U g hg]
   have := b2H g hg q p
   unfold rawM at this
   rw [this]
   show _ = (x.2 * g x.1 + evP g p) * evP g q
   grind
noncomputable def evL (g : Int → Int) (x : Lp) : Int := evP g x.1
theorem a6j (g : Int → Int) (p : Po) : evL g (toL p) = evP g p := a5a g p
structure Mg (g : Int → Int) : Prop where
 m : ∀ a b, g (a + b) = g a * g b
 z : g 0 = 1
theorem a9V {g : Int → Int} (x y : Lp) : evL g (x + y) = evL g x + evL g y := by
 show evL g (toL (addP x.1 y.1)) = _
 rw [a6j]
 unfold addP
 rw [a5a, a4D]; rfl
theorem a2s {g : Int → Int} (h : Mg g) (x y : Lp) : evL g (x * y) = evL g x * evL g y := by
 show evL g (toL (a0Z x.1 y.1)) = _
 rw [a6j]
 unfold a0Z
 rw [a5a, b2H g h.m]; rfl
theorem b4T {g : Int → Int} (h : Mg g) (s : Int) : evL g (sgU s) = s := by
 unfold sgU
 rw [a6j]
 show s * g 0 + 0 = s
 rw [h.z]; lia
theorem b8J {g : Int → Int} (h : Mg g) : evL g 1 = 1 := b4T h 1
theorem b8K {g : Int → Int} (h : Mg g) (x : Lp) : evL g (-x) = -evL g x := by
 show evL g (sgU (-1) * x) = _
 rw [a2s h, b4T h]; lia
noncomputable def g1 (_ : Int) : Int := 1
theorem mg1 : Mg g1 := ⟨fun _ _ => rfl, rfl⟩
noncomputable def barP (p : Po) : Po := p.map fun z => (-z.1, z.2)
theorem b2X (c : Int) : ∀ p : Po, co (barP p) c = co p (-c)
 | [] => rfl
 | x :: p => by
   show (if -x.1 = c then x.2 else 0) + co (barP p) c = (if x.1 = -c then x.2 else 0) + co p (-c)
   rw [b2X c p]
   by_cases h : -x.1 = c
   ·rw [if_pos h, if_pos (by lia)]
   ·rw [if_neg h, if_neg (by lia)]
noncomputable def barL (x : Lp) : Lp := toL (barP x.1)
theorem a3S (x : Lp) (c : Int) : co (barL x).1 c = co x.1 (-c) := by unfold barL; rw [co_L, b2X]
theorem b3g (x y : Lp) : barL (x + y) = barL x + barL y := Lp.ext2 fun c => by rw [a1p, a3S, a3S, a3S, a1p]
theorem b5b (f : Int → Int) (c : Int) : ∀ p : Po, cv (barP p) (fun k => f (-k)) c = cv p f (-c)
 | [] => rfl
 | x :: p => by
   show x.2 * f (-(c - -x.1)) + cv (barP p) (fun k => f (-k)) c = x.2 * f (-c - x.1) + cv p f (-c)
   rw [b5b f c p, show -(c - -x.1) = -c - x.1 by lia]
theorem a3V (x y : Lp) : barL (x * y) = barL x * barL y := Lp.ext2 fun c => by
 rw [a3S, a1u, a1u]
 have e : co (barL y).1 = fun k => co y.1 (-k) := funext fun k => a3S y k
 rw [e]
 unfold barL
 rw [cv_L, b5b]
theorem a7k (k s : Int) : barL (toL [(k, s)]) = toL [(-k, s)] := Lp.ext2 fun c => by
 rw [a3S, co_L, co_L]
 show (if k = -c then s else 0) + 0 = (if -k = c then s else 0) + 0
 by_cases h : k = -c
 ·rw [if_pos h, if_pos (by lia)]
 ·rw [if_neg h, if_neg (by lia)]
theorem a9k (s : Int) : barL (sgU s) = sgU s := a7k 0 s
theorem b6R : barL 1 = 1 := a9k 1
theorem b6P (x y : Lp) : barL (x - y) = barL x - barL y := by
 show barL (x + sgU (-1) * y) = barL x + sgU (-1) * barL y
 rw [b3g, a3V, a9k]
section
variable {P : Program} {w : World} {A : Around} {E : Value → Shared → Prop} {s : Shared}
end
section
variable {X : Cx} {e f : Expr}
end
section
variable {X : Cx} {e : Expr} {te : TE3} {p p2 pos pos2 : Pos}
end
section
variable {X : Cx}
end
theorem a6Y {K : PySem.W.Frag} {H : Hp} {v : V} {ks : List Int} {ts : List T} (r : Rep K H v (.dic ks ts)) : ∃ b, v = .ref b ∧ H b = some (.tup (ks.map V.int)) := by unfold Rep at r; exact r
theorem a8E {K : PySem.W.Frag} {H : Hp} {b : Addr} {ks : List Int} {ts : List T} (h : H b = some (.tup (ks.map V.int))) : Rep K H (.ref b) (.dic ks ts) := by unfold Rep; exact ⟨b, rfl, h⟩
noncomputable def tKt (t : TE3) : TE3 := fun ρ M Q => t ρ M fun x M1 => match x with
 | .dic ks _ => Q (.tup (ks.map .int)) M1
 | _ => False
noncomputable def kyI (ks : List Int) : List Key := ks.map Sum.inl
theorem a7N (ks : List Int) : (kyI ks).map kV = ks.map V.int := by unfold kyI; rw [List.map_map]; rfl
noncomputable def dtI (D : List (List Int × T)) : List (List Key × T) := D.map fun d => (kyI d.1, d.2)
section
variable {X : Cx} {pos : Pos}
theorem a2Z {e : Expr} {t : TE3} (h : HE X e t) : HE X e (tKt t) := fun ρ M Q q => (h ρ M _ q).imp fun σ H Q2 ⟨hr, hh, en⟩ => ⟨hr, hh, fun x v M1 H1 k1 h1 r1 q1 => by
 cases x with
 | dic ks ts =>
   obtain ⟨b, rfl, hb⟩ := a6Y r1
   exact en _ _ M1 H1 k1 h1 (a1f (SqT.of hb) (Reps.of_ints ks)) q1
 | _ => exact q1.elim⟩
noncomputable def b5D : List T → MH → VK3 → Prop := fun xs M Q => match xs with
 | [.adr p] => (match M p with | some (.lst ts) => ∃ ks : List Int, ts = ks.map .int ∧ Q (.dic ks []) M | _ => False)
 | _ => False
theorem b0Y : a2E X (.type "tuple") b5D := by
 intro pins s σ H vs us Q2 I r h
 obtain ⟨xs, M, Q, rr, hh, q, en⟩ := h
 unfold b5D at q
 split at q
 ·obtain ⟨v, rfl, r1⟩ := a1s rr
  obtain rfl := a0v r1
  split at q
  ·rename_i ts e0
   obtain ⟨ks, rfl, q⟩ := q
   obtain ⟨ys, g1, g2⟩ := hh _ _ e0
   obtain rfl := Reps.ints g2
   exact a1U pins s σ H _ us Q2 I r ⟨_, _, rfl, .inl ⟨SqL.of g1, fun l hl => en _ _ M _ (Kp.new hl) (hh.keep hl) (a8E a0s) q⟩⟩
  ·exact q.elim
 ·exact q.elim
noncomputable def b5M : R3 := fun x y M Q => match x, y with
 | .tup ts, .tup us => ∃ as bs : List Int, ts = as.map .int ∧ us = bs.map .int ∧ as ≠ [] ∧ bs ≠ [] ∧ as.length + bs.length ≤ sizeLine ∧ Q (.dic (as ++ bs) []) M
 | _, _ => False
theorem b3V : OpR3 X (binaryOp .Add) b5M := by
 intro pins s σ H x y v u Q2 I rx ry q
 obtain ⟨a, b, M, Q, r1, r2, hh, q, en⟩ := q
 unfold b5M at q
 split at q
 ·obtain ⟨as, bs, rfl, rfl, ha, hb, hz, q⟩ := q
  obtain ⟨p, xs, rfl, h1, h2⟩ := a0H r1
  obtain ⟨p', ys, rfl, g1, g2⟩ := a0H r2
  obtain rfl := Reps.ints h2
  obtain rfl := Reps.ints g2
  refine b1R pins s σ H _ _ v u Q2 I rx ry ⟨_, _, _, _, rfl, rfl, h1, g1, fun z => ha (List.map_eq_nil_iff.mp z), by rw [List.length_map, List.length_map]; exact hz, fun hy => absurd (List.map_eq_nil_iff.mp hy) hb, fun hy r hr => ?_⟩
  refine en _ _ M _ (Kp.new hr) (hh.keep hr) (a8E ?_) q
  rw [a0s, List.map_append]
 ·exact q.elim
noncomputable def b7m (td tk tx : TE3) : TE3 := fun ρ M Q => td ρ M fun x M1 => b2t M1 x ∧ tk ρ M1 fun k M2 => tx ρ M2 fun z M3 => match x, k with
 | .adr p, .dic ks _ => (match M3 p with
   | some (.dt kvs) => Q ((valT kvs (kyI ks)).getD z) M3
   | _ => False)
 | _, _ => False
theorem b8D {o e f : Expr} {td tk tx : TE3} {apos cpos : Pos} (hu : X.A.units + 64 < cLine) (ho : HE X o td) (he : HE X e tk) (hf : HE X f tx)
  (m1 : attributeBase o "get" X.env (eval o X.env) = eval o X.env := by rfl)
  (m2 : ((backTo cpos (starEach [e, f] X.env)).all (fun x => !x.1) && (backToKw cpos (keywordEach [] X.env)).all (fun x => x.1.isSome)
   && decide (([e, f] : List Expr).length + ([] : List Keyword).length + (if ([] : List Keyword).isEmpty then 0 else 1) < 30)) = true := by rfl)
  (m3 : (apos.endLine == cpos.line) = true := by rfl) (m4 : backTo cpos (starEach [e, f] X.env) = [(false, eval e X.env), (false, eval f X.env)] := by rfl) :
  HE X (.Call (.Attribute o "get" apos) [e, f] [] cpos) (b7m td tk tx) := fun ρ M Q h =>
 (a9z (by lia) (ho.d (ρ := ρ)) (he.d (ρ := ρ)) (hf.d (ρ := ρ)) ⟨m1, m2, m3, m4⟩).imp fun σ H Q2 ⟨hr, hh, en⟩ => ⟨M, _, h, hr, hh, fun x v M1 H1 k1 h1 r1 q1 => by
  obtain ⟨hd, q1⟩ := q1
  obtain ⟨a, rfl, isd⟩ := a9S h1 r1 hd
  refine ⟨a, rfl, isd, M1, _, q1, hr.kp k1, h1, fun y v2 M2 H2 k2 h2 r2 q2 => ⟨M2, _, q2, hr.kp (k1.trans k2), h2, fun z v3 M3 H3 k3 h3 r3 q3 => ?_⟩⟩
  cases x with
  | adr p =>
    cases r1
    cases y with
    | dic ks ts =>
      dsimp only at q3
      split at q3
      ·rename_i kvs e
       obtain ⟨b, rfl, hb⟩ := a6Y r2
       obtain ⟨xs, g1, g2⟩ := h3 _ _ e
       refine ⟨_, DGet.t g1 (b := b) (k := kyI ks) (by rw [a7N]; exact k3.tr _ _ hb), en _ _ M3 H3 ((k1.trans k2).trans k3) h3 ?_ q3⟩
       have hv := g2.val (kyI ks)
       cases ev : valT kvs (kyI ks) with
       | none => rw [ev] at hv; rw [hv]; exact r3
       | some t =>
         rw [ev] at hv
         obtain ⟨u, e1, e2⟩ := hv
         rw [e1]; exact e2
      ·exact q3.elim
    | _ => exact q3.elim
  | _ => exact hd.elim⟩
noncomputable def sDPD (td tk tv : TE3) : TS3 := fun D ρ M => tv ρ M fun z M1 => td ρ M1 fun x M2 => tk ρ M2 fun k M3 => match x, k with
 | .adr p, .dic ks _ => (match M3 p with
   | some (.dt kvs) => kvs.length < sizeLine ∧ D.nx ρ (updM M3 p (.dt (putT kvs (kyI ks) z)))
   | _ => False)
 | _, _ => False
theorem b9x {o i value : Expr} {td tk tv : TE3} {pos pos' : Pos} (hu : X.A.units + 64 < cLine) (hv : HE X value tv) (ho : HE X o td) (hi : HE X i tk) (hs : swapsWith value (some (.Subscript o i pos')) pos.line X.env = pure false := by rfl) :
  HS X (.Assign [.Subscript o i pos'] value pos) (sDPD td tk tv) := fun D ρ M h =>
 (b1J (by lia) (ho.d (ρ := ρ)) (hi.d (ρ := ρ)) (hv.d (ρ := ρ)) hs).imp fun D2 σ H ⟨hr, hh, en⟩ => ⟨M, _, h, hr, hh, fun z v M1 H1 k1 h1 r1 q1 => ⟨M1, _, q1, hr.kp k1, h1, fun x v2 M2 H2 k2 h2 r2 q2 => ⟨M2, _, q2, hr.kp (k1.trans k2), h2, fun y v3 M3 H3 k3 h3 r3 q3 => by
  cases x with
  | adr p =>
    cases r2
    cases y with
    | dic ks ts =>
      dsimp only at q3
      split at q3
      ·rename_i kvs e
       obtain ⟨hl, q3⟩ := q3
       obtain ⟨b, rfl, hb⟩ := a6Y r3
       obtain ⟨xs, g1, g2⟩ := h3 _ _ e
       have kk' := Kp.dict (K := X.K) (u := .dT (putK xs (kyI ks) v)) g1 (.inr ⟨_, rfl⟩)
       have kall := (k1.trans k2).trans (k3.trans kk')
       refine ⟨_, _, rfl, DPut.t g1 (b := b) (k := kyI ks) (by rw [a7N]; exact hb) (by rw [g2.length]; exact hl), en.nx _ _ _ _ kall (hr.kp kall) (h3.setT g1 (.inr ⟨_, rfl⟩) (g2.put (kyI ks) (Rep.kp (k2.trans k3) _ _ r1))) q3⟩
      ·exact q3.elim
    | _ => exact q3.elim
  | _ => exact q3.elim⟩⟩⟩
end
noncomputable def b0c (Q : VK3) (p : Addr) (k z : T) (M2 : MH) : Prop := match k with
 | .dic ks _ => M2 p = some (.dt []) ∧ Q (.adr p) (updM M2 p (.dt [(kyI ks, z)]))
 | _ => False
noncomputable def b4G (tk tv : TE3) : TE3 := fun ρ M Q => ∀ p, M p = none → tk ρ (updM M p (.dt [])) fun k M1 => tv ρ M1 fun z M2 => b0c Q p k z M2
section
variable {X : Cx} {pos : Pos}
theorem b6z {k v : Expr} {tk tv : TE3} (hu : X.A.units + 64 < cLine) (hk : HE X k tk) (hv : HE X v tv) : HE X (.Dict [some k] [v] pos) (b4G tk tv) := by
 intro ρ M Q q pins s σ H Q2 I bb
 obtain ⟨hr, hh, en⟩ := bb
 have hn := I.hok.fresh (Nat.le_refl s.heap.objs.size)
 have I1 := I.laid (a := s.heap.objs.size) (o := .dT []) (h' := s.heap.push { cls := .type "dict", data := .dict #[] }) (t' := s.toks) (fun _ _ q => Heap.get?_push_of_some _ q) (Nat.le_refl _) (b0a s.heap I.big)
 have k0 := Kp.new (K := X.K) (o := .dT []) hn
 have hh1 : HR X.K (upd H s.heap.objs.size (.dT [])) (updM M s.heap.objs.size (.dt [])) := hh.newT hn (kvs := []) (xs := []) trivial
 refine wpAny_Dict_any rfl rfl (by simp) (by simp) (pairTrees_cons_walk (thn (hk ρ _ _ (q _ (hh.free hn)) pins _ σ _ (fun v1 H1 => ∃ x M1, Rep X.K H1 v1 x ∧ HR X.K H1 M1 ∧ Kp X.K (upd H s.heap.objs.size (.dT [])) H1 ∧ tv ρ M1 fun z M2 => b0c Q s.heap.objs.size x z M2) I1 ⟨hr.kp k0, hh1, fun x v1 M1 H1 k1 h1 r1 q1 => ⟨x, M1, r1, h1, k1, q1⟩⟩) fun u s1 ⟨xv, H1, I2, rx, x, M1, r1, h1, k1, q1⟩ => ?_))
 refine thn (hv ρ M1 _ q1 pins s1 σ H1 (fun v2 H2 => ∃ z M2, Rep X.K H2 v2 z ∧ HR X.K H2 M2 ∧ Kp X.K H1 H2 ∧ b0c Q s.heap.objs.size x z M2) I2 ⟨hr.kp (k0.trans k1), h1, fun z v2 M2 H2 k2 h2 r2 q2 => ⟨z, M2, r2, h2, k2, q2⟩⟩) fun w2 s2 ⟨zv, H2, I3, rz, z, M2, r2, h2, k2, q2⟩ => pairTrees_nil_walk ?_
 cases x with
 | dic ks ts =>
   obtain ⟨q3, q4⟩ := q2
   obtain ⟨b, rfl, hb⟩ := a6Y r1
   cases rx
   have hb2 := k2.tr _ _ hb
   obtain ⟨zs, e, kr0⟩ := h2 _ _ q3
   obtain rfl : zs = [] := by cases zs with | nil => rfl | cons a b => exact kr0.elim
   obtain ⟨z0, hd, xs, rel, dd⟩ := b8M I3.hok e
   have hz : xs.length ≤ sizeLine := by rw [← Paired.length rel]; exact z0
   unfold storeAll
   rw [List.forIn_cons]
   refine wpAny_bind (wpAny_bind (wpAny_dictSet_heap (hsz := hz) (show X.A.units < cLine by lia) (a6d (ks := kyI ks) I3.hok (by rw [a7N]; exact hb2)) dd fun h' dd' hs => wpAny_pure ?_))
   show wpAny _ _ (forIn [] PUnit.unit _) _ _ _
   rw [List.forIn_nil]
   refine wpAny_pure ?_
   obtain ⟨qo, es, ep, hq, h2', h3, h4, _, h5⟩ := dd'
   have hne : b ≠ s.heap.objs.size := fun z => by rw [z, e] at hb2; cases hb2
   refine ⟨.ref s.heap.objs.size, _, a9d I3 (by rw [e]; exact True.intro) hs ⟨qo, hq⟩ (ob := .dT (putK [] (kyI ks) zv)) ⟨?_, hd, _, (rel.put (kyI ks) (b := b) (by rw [a7N]; exact hb2) rz).keeps fun c ys ec => ?_, qo, es, ep, hq, h2', h3, h4, h5⟩, rfl, en _ _ _ _ ((k0.trans k1).trans (k2.trans (Kp.dict e (.inr ⟨_, rfl⟩)))) (h2.setT e (.inr ⟨_, rfl⟩) ?_) a1g q4⟩
   ·have := a3P ([] : List (List Key × V)) (kyI ks) zv
    rw [sizeLine_eq]
    simp only [List.length_nil] at this
    lia
   ·rw [a0l (b6k ec e (fun z => nomatch z))]
    exact ec
   ·exact ⟨rfl, r2, trivial⟩
 | _ => exact q2.elim
end
section
variable {P : Program} {w : World} {A : Around} {E : Value → Shared → Prop} {s : Shared}
theorem a7R {d : Addr} {Q : Value → Shared → Prop} (hT : s.TypeIs (.ref d) "dict") (hd : (d == sysModules) = false)
  (hQ : Q (.ref s.heap.objs.size) { s with heap := s.heap.push { cls := .type "dict_items", data := .fields #[.ref d] } }) : wpAny (model P w) A (call (.builtin "dict.items") [.ref d]) Q E s := by
 refine wpAny_call_entry F.slot_dict_items hT F.entry_dict_items ?_ (F.args_dict_items_1 _)
 unfold Builtin.«dict.items»; refine wpAny_bind ?_; unfold Builtin.Dict.noArgs
 refine wpAny_bind (wpAny_notOrdered_dict hT ?_); show wpAny _ _ (pure d) _ _ s; refine wpAny_pure ?_
 show wpAny _ _ (Builtin.Dict.showsAll d >>= _) _ _ s; unfold Builtin.Dict.showsAll; rw [if_neg (fun z => by rw [hd] at z; cases z)]
 refine wpAny_bind (wpAny_pure ?_); exact wpAny_bind (wpAny_newObj_type (wpAny_pure ⟨_, rfl, hQ⟩))
theorem a6X {vw d : Addr} {o : Obj} {es : Array DictEntry} {ep : Nat} {Q : Value → Shared → Prop} (hv : s.heap.IsItemsView vw d) (ho : s.heap.get? d = some o) (hdat : o.data = .dict es ep)
  (hQ : Q (.ref s.heap.objs.size) { s with heap := s.heap.push { cls := .type "dict_itemiterator", data := .fields #[.none, .bool false, .ref d, .int 0 0, .int es.size 0, .int ep 0, .none, .none] } }) : wpAny (model P w) A (pyIter (.ref vw)) Q E s := by
 obtain ⟨ov, hov, hcv, hdv⟩ := id hv
 refine wpAny_pyIter_slot hv.typeIs F.slot_dict_items_iter (wpAny_call_entry F.slot_dict_items_iter hv.typeIs F.entry_dict_items_iter ?_ (F.args_dict_items_iter_1 _))
 unfold Builtin.«dict_items.__iter__»; refine wpAny_bind (wpAny_pure (wpAny_bind ?_)); unfold Builtin.Dict_items.dictOf
 refine wpAny_bind (wpAny_field hov hdv (x := .ref d) rfl (wpAny_pure (wpAny_bind ?_))); unfold Builtin.Dict_items.newIterator
 refine wpAny_bind (wpAny_dictEntries ho hdat (wpAny_bind (wpAny_dictEpoch ho hdat ?_)))
 simp only [show Builtin.Dict_items.ownsTuple "dict_itemiterator" = true by decide, if_true]
 refine wpAny_newObj_type (wpAny_pure ⟨_, rfl, "dict_itemiterator", _, ⟨_, Heap.get?_push_size _ rfl, rfl⟩, F.slot_dict_itemiterator_next.lookup, ?_⟩) (by simp only [sizeOk, Builtin.Dict_items.ownedTupleFields, List.size_toArray, List.length_append, List.length_cons, List.length_nil, sizeLine_eq]; lia)
 simpa [rawInt, Builtin.Dict_items.ownedTupleFields] using hQ
theorem a7T {it d : Addr} {o : Obj} {es : Array DictEntry} {ep i : Nat} {e : DictEntry} {ok ov : Value} {Q : Option Value → Shared → Prop} (hit : IsItemIter s.heap it d i es.size ep ok ov) (hod : s.heap.get? d = some o) (hdd : o.data = .dict es ep) (hx : es[i]? = some e)
  (hQ : ∀ h', IsItemIterOut h' it d (i + 1) es.size ep e.key e.val s.heap.objs.size → h'.get? s.heap.objs.size = some { cls := .type "tuple", data := .seq #[e.key, e.val] } → h'.objs.size = s.heap.objs.size + 1 → (∀ b o, b ≠ it → s.heap.get? b = some o → h'.get? b = some o) → Q (some (.ref s.heap.objs.size)) { s with heap := h' }) :
  wpAny (model P w) A (pyNext (.ref it)) Q E s := by
 obtain ⟨hp, g, dr, tk, os⟩ := s
 have hT : Shared.TypeIs ⟨hp, g, dr, tk, os⟩ (.ref it) "dict_itemiterator" := ⟨_, hit, rfl⟩
 unfold pyNext
 refine wpAny_bind (wpAny_attempt (wpAny_callSpecial?_slot (name := Str.ofString "__next__") hT F.slot_dict_itemiterator_next (wpAny_call_entry F.slot_dict_itemiterator_next hT F.entry_dict_itemiterator_next (wpAny_bind (wpAny_pure (wpAny_bind (wpAny_bind ?_)))) (F.args_dict_itemiterator_next_1 _))))
 first | refine wpAny_bind (wpAny_typeNameOfWhole_itemiter hT (wpAny_pure (wpAny_bind (wpAny_fieldsOf hit rfl ?_)))) | refine wpAny_bind (wpAny_typeNameOf_itemiter hT (wpAny_pure (wpAny_bind (wpAny_fieldsOf hit rfl ?_))))
 simp only [show Builtin.Dict_items.ownsTuple "dict_itemiterator" = true by decide, if_true]
 show wpAny _ _ (if (Value.ref d == Value.none) = true then _ else _) _ _ _; rw [if_neg (fun z => by cases z)]
 refine wpAny_bind (wpAny_pure (wpAny_bind (wpAny_dictEntries hod hdd ?_))); rw [if_neg (by simp)]
 refine wpAny_bind (wpAny_pure (wpAny_bind (wpAny_dictEpoch hod hdd ?_))); rw [if_neg (by simp)]; refine wpAny_pure ?_
 simp only [show ¬ ((i : Int) < 0) from by lia, if_false, Int.toNat_natCast, hx]
 refine wpAny_bind ?_
 first | refine wpAny_bind (wpAny_typeNameOfWhole_itemiter hT (wpAny_pure (wpAny_bind (wpAny_isOneOf_itemiter hT ?_)))) | refine wpAny_bind (wpAny_typeNameOf_itemiter hT (wpAny_pure (wpAny_bind (wpAny_isOneOf_itemiter hT ?_))))
 show wpAny _ _ (setField (.ref it) 3 (rawInt ((i : Int) + 1)) >>= _) _ _ ⟨hp, g, dr, tk, os⟩
 refine wpAny_bind (wpAny_setField_rec hit (by simp) fun h1 e1 s1 => ?_)
 replace s1 : Heap.SameBut it hp h1 := s1
 replace e1 : IsItemIter h1 it d (i + 1) es.size ep ok ov := by
  unfold IsItemIter; rw [show ((i + 1 : Nat) : Int) = (i : Int) + 1 by lia]; simpa [rawInt] using e1
 have hT1 : Shared.TypeIs ⟨h1, g, dr, tk, os⟩ (.ref it) "dict_itemiterator" := ⟨_, e1, rfl⟩
 refine wpAny_bind (wpAny_holding (wpAny_bind (wpAny_isOneOf_itemiter hT1 (wpAny_bind (wpAny_isOneOf_itemiter hT1 ?_)))))
 show wpAny _ _ (Builtin.Dict_items.pairFromOwner (.ref it) 6 e.key e.val) _ _ ⟨h1, g, dr, tk, os⟩
 unfold Builtin.Dict_items.pairFromOwner; refine wpAny_bind (wpAny_newTuple ?_)
 have e2 : IsItemIter (h1.push { cls := .type "tuple", data := .seq #[e.key, e.val] }) it d (i + 1) es.size ep ok ov := Heap.get?_push_of_some _ e1
 generalize hh2 : h1.push { cls := .type "tuple", data := .seq #[e.key, e.val] } = h2 at e2
 have z1 : h1.objs.size = hp.objs.size := s1.1
 have hil : it < hp.objs.size := Heap.lt_size hit
 have t2 : h2.get? hp.objs.size = some { cls := .type "tuple", data := .seq #[e.key, e.val] } := by rw [← hh2, ← z1]; exact Heap.get?_push_size _ rfl
 have z2 : h2.objs.size = hp.objs.size + 1 := by rw [← hh2, Heap.size_push, z1]
 have k2 : ∀ b o, b ≠ it → hp.get? b = some o → h2.get? b = some o := fun b o hb e => by rw [← hh2]; exact Heap.get?_push_of_some _ (s1.extBut b o hb e)
 show wpAny _ _ (Builtin.Dict_items.ownedTupleIsFree (.ref it) >>= _) _ _ ⟨h2, g, dr, tk, os⟩; rw [z1]
 clear hh2 e1 s1 hT1 z1 h1
 refine wpAny_bind ?_; unfold Builtin.Dict_items.ownedTupleIsFree
 refine wpAny_bind (wpAny_field e2 rfl (x := .none) rfl (wpAny_pure ?_)); simp only [if_true]
 refine wpAny_bind (wpAny_field e2 rfl (x := ok) rfl (wpAny_bind (wpAny_field e2 rfl (x := ov) rfl (wpAny_bind (wpAny_setField_rec e2 (by simp) fun h3 e3 s3 => ?_)))))
 replace s3 : Heap.SameBut it h2 h3 := s3
 replace e3 : IsItemIter h3 it d (i + 1) es.size ep e.key ov := e3
 refine wpAny_bind (wpAny_setField_rec e3 (by simp) fun h4 e4 s4 => ?_)
 replace s4 : Heap.SameBut it h3 h4 := s4
 replace e4 : IsItemIter h4 it d (i + 1) es.size ep e.key e.val := e4
 refine wpAny_bind (wpAny_setField_rec e4 (by simp) fun h5 e5 s5 => ?_)
 replace s5 : Heap.SameBut it h4 h5 := s5
 replace e5 : IsItemIterOut h5 it d (i + 1) es.size ep e.key e.val hp.objs.size := e5
 refine wpAny_bind (wpAny_setField_rec e5 (by simp) fun h6 e6 s6 => ?_)
 replace s6 : Heap.SameBut it h5 h6 := s6
 replace e6 : IsItemIterOut h6 it d (i + 1) es.size ep e.key e.val hp.objs.size := e6
 refine wpAny_bind (wpAny_letGo (wpAny_pure (wpAny_pure ⟨_, rfl, wpAny_pure (hQ h6 e6 ?_ ?_ ?_)⟩)))
 ·exact s6.extBut _ _ (Nat.ne_of_gt hil) (s5.extBut _ _ (Nat.ne_of_gt hil) (s4.extBut _ _ (Nat.ne_of_gt hil) (s3.extBut _ _ (Nat.ne_of_gt hil) t2)))
 ·show h6.objs.size = hp.objs.size + 1
  rw [s6.1, s5.1, s4.1, s3.1, z2]
 ·exact fun b o hb e => s6.extBut b o hb (s5.extBut b o hb (s4.extBut b o hb (s3.extBut b o hb (k2 b o hb e))))
theorem a7S {it d : Addr} {o : Obj} {es : Array DictEntry} {ep i : Nat} {ok ov : Value} {Q : Option Value → Shared → Prop} (hh : A.handled = none) (hit : IsItemIter s.heap it d i es.size ep ok ov) (hod : s.heap.get? d = some o) (hdd : o.data = .dict es ep) (hx : es.size ≤ i)
  (hQ : ∀ h', Heap.ExtBut it s.heap h' → Q none { s with heap := h' }) : wpAny (model P w) A (pyNext (.ref it)) Q E s := by
 have hT : s.TypeIs (.ref it) "dict_itemiterator" := ⟨_, hit, rfl⟩
 unfold pyNext
 refine wpAny_bind (wpAny_attempt (wpAny_callSpecial?_slot (name := Str.ofString "__next__") hT F.slot_dict_itemiterator_next (wpAny_call_entry F.slot_dict_itemiterator_next hT F.entry_dict_itemiterator_next (wpAny_bind (wpAny_pure (wpAny_bind (wpAny_bind ?_)))) (F.args_dict_itemiterator_next_1 _))))
 first | refine wpAny_bind (wpAny_typeNameOfWhole_itemiter hT (wpAny_pure (wpAny_bind (wpAny_fieldsOf hit rfl ?_)))) | refine wpAny_bind (wpAny_typeNameOf_itemiter hT (wpAny_pure (wpAny_bind (wpAny_fieldsOf hit rfl ?_))))
 simp only [show Builtin.Dict_items.ownsTuple "dict_itemiterator" = true by decide, if_true]
 show wpAny _ _ (if (Value.ref d == Value.none) = true then _ else _) _ _ _; rw [if_neg (fun z => by cases z)]
 refine wpAny_bind (wpAny_pure (wpAny_bind (wpAny_dictEntries hod hdd ?_))); rw [if_neg (by simp)]
 refine wpAny_bind (wpAny_pure (wpAny_bind (wpAny_dictEpoch hod hdd ?_))); rw [if_neg (by simp)]; refine wpAny_pure ?_
 simp only [show ¬ ((i : Int) < 0) from by lia, if_false, Int.toNat_natCast, Array.getElem?_eq_none hx]
 refine wpAny_bind ?_
 first | refine wpAny_bind (wpAny_typeNameOfWhole_itemiter hT (wpAny_pure ?_)) | refine wpAny_bind (wpAny_typeNameOf_itemiter hT (wpAny_pure ?_))
 show wpAny _ _ (setField (.ref it) 2 .none >>= _) _ _ s; refine wpAny_bind (wpAny_setField hit rfl (by simp) ?_)
 show wpAny _ _ (newExc (.type "StopIteration") [] >>= _) _ _ _; refine wpAny_bind ?_
 simp only [newExc, newTuple]; refine wpAny_bind (wpAny_newObj_type ?_ (by size_fits))
 refine wpAny_bind (m := firstArgMember _ _) (wpAny_of_eq (a := Value.none) (by first | rfl | (simp only [firstArgMember]; rfl)) (wpAny_newObj_type ?_ (by size_fits)))
 simp only [raiseNew]; refine wpAny_bind (wpAny_handled ?_); rw [show A.in1.handled = none from hh]
 refine wpAny_bind (wpAny_pure (wpAny_throw ?_)); refine wpAny_bind (wpAny_isInstance (T := "StopIteration") (b := true) ⟨_, Heap.get?_push_size _ rfl, rfl⟩ isSubtype_stop (wpAny_pure (hQ _ (((Heap.SameBut.update ..).extBut.push _).push _))))
end
theorem a4M {P : Program} {w : World} {H : Hp} {h : Heap} {d : Addr} {o : Obj} {kvs : List (List Key × V)} (ok : HOk P w H h) (e : H d = some (.frz o (.dT kvs))) :
  h.get? d = some o ∧ o.ExactDict ∧ ∃ es ep, o.data = .dict es ep ∧ es.size = kvs.length ∧ ∀ (i : Nat) kv, kvs[i]? = some kv → ∃ en b, es[i]? = some en ∧ en.key = .ref b ∧ H b = some (.tup (kv.1.map kV)) ∧ RelV kv.2 en.val := by
 obtain ⟨g, z, y, xs, r, o', es, ep, h1, h2, h3, h4, h5⟩ := (show h.get? d = some o ∧ a0R P w H h d (.dT kvs) from ok d _ e)
 rw [g] at h1
 obtain rfl := Option.some.inj h1
 refine ⟨g, h2, es, ep, h3, ?_, fun i kv hi => ?_⟩
 ·rw [← Array.length_toList, h4, List.length_map, Paired.length r]
 ·obtain ⟨q, e1, e2, e3, e4⟩ := a7z r hi
  exact ⟨entryOfKey (tupleKind (a0F P w)) q, q.2.1, by rw [← Array.getElem?_toList, h4, List.getElem?_map, e1]; rfl, rfl, e3, e4⟩
noncomputable def Iti (d : Addr) (o : Obj) : It :=
 ⟨fun i H => ∃ kvs kv, H d = some (.frz o (.dT kvs)) ∧ kvs[i]? = some kv, fun i H x H' => ∃ T y z, x = .ref T ∧ H T = none ∧ H' = upd H T (.tup [.ref y, z]) ∧ ∀ kvs kv, H d = some (.frz o (.dT kvs)) → kvs[i]? = some kv → H y = some (.tup (kv.1.map kV)) ∧ z = kv.2, fun i H => ∃ kvs, H d = some (.frz o (.dT kvs)) ∧ kvs.length ≤ i⟩
theorem Inv.turnNew1 {X : Cx} {pins : List (Addr × Obj)} {σ : St} {H : Hp} {s : Shared} {h' : Heap} {t' : Nat} {it T : Addr} {xs : List V} (I : Inv X pins σ H s) (fi : FpOk X pins H it)
  (k : ∀ b o, b ≠ it → s.heap.get? b = some o → h'.get? b = some o) (hT : s.heap.objs.size ≤ T) (new : a0R X.prog X.w (upd H T (.tup xs)) h' T (.tup xs)) :
  Inv X pins σ (upd H T (.tup xs)) { s with heap := h', toks := t' } := I.turnNew fi fi (fun b o h1 _ q => k b o h1 q) hT new
theorem b0o {P : Program} {w : World} {K : PySem.W.Frag} {es' : List Expr} {x1} {tp : Pos} (d : Addr) (o : Obj) (it : Addr) : Turn P w K (.Tuple es' x1 tp) (Iti d o) [it] it (fun i h => ∃ es ep ok ov, o.data = .dict es ep ∧ IsItemIter h it d i es.size ep ok ov) where
 mem := by simp
 obj := fun i h st b hb => by
  have e : b = it := by simpa using hb
  subst e
  obtain ⟨_, _, _, _, _, e⟩ := st
  exact ⟨_, e, fun v z => by cases z⟩
 keep := fun i h h' st k => let ⟨es, ep, ok, ov, a, st⟩ := st; ⟨es, ep, ok, ov, a, k it (by simp) _ st⟩
 item := by
  intro X hP hw hK hc i pins s σ H E I hf st hg
  subst hP hw hK
  obtain ⟨kvs, kv, hq, hx⟩ := hg
  obtain ⟨es, ep, ok, ov, hdat, st⟩ := st
  obtain ⟨g, _, es', ep', hdat', hsz, hat⟩ := a4M I.hok hq
  rw [hdat] at hdat'
  obtain ⟨rfl, rfl⟩ : es = es' ∧ ep = ep' := by injection hdat' with a b; exact ⟨a, b⟩
  obtain ⟨en, b, h1, h2, h3, h4⟩ := hat i kv hx
  have fi := hf it (by simp)
  refine a7T st g hdat h1 fun h1' ho hT hsz' hk => ?_
  refine ⟨_, rfl, wpAny_letOwnedTupleGo_items ho fun h2' he2 hs2 => ?_⟩
  have hil : it < s.heap.objs.size := Heap.lt_size st
  have neT : s.heap.objs.size ≠ it := Nat.ne_of_gt hil
  have k2 : ∀ b o, b ≠ it → s.heap.get? b = some o → h2'.get? b = some o := fun b o h3 q => (hs2.2 b h3).trans (hk b o h3 q)
  have hT2 : h2'.get? s.heap.objs.size = some { cls := .type "tuple", data := .seq #[en.key, en.val] } := (hs2.2 _ neT).trans hT
  have hn : H s.heap.objs.size = none := I.hok.fresh (Nat.le_refl _)
  have I2 : Inv X pins σ (upd H s.heap.objs.size (.tup [.ref b, kv.2])) { s with heap := h2' } := I.turnNew1 (t' := s.toks) fi k2 (Nat.le_refl _)
   ⟨by simp only [List.length_cons, List.length_nil]; rw [sizeLine_eq]; decide, [en.key, en.val], .cons (by rw [h2]; exact rfl) (.cons h4 .nil), _, hT2, rfl, rfl, _, rfl⟩
  refine ⟨.ref s.heap.objs.size, _, I2, rfl, ⟨_, b, kv.2, rfl, hn, rfl, fun kvs2 kv2 q2 x2 => ?_⟩, ⟨es, ep, _, _, hdat, he2⟩, fun c hc => ?_⟩
  ·rw [hq] at q2
   cases q2
   rw [hx] at x2
   cases x2
   exact ⟨h3, rfl⟩
  ·have e : c = it := by simpa using hc
   subst e
   rw [a0l neT.symm]
   exact fi.1
 done := by
  intro X hP hw hK hc i pins s σ H E I hf st hg
  subst hP hw hK
  obtain ⟨kvs, hq, hx⟩ := hg
  obtain ⟨es, ep, ok, ov, hdat, st⟩ := st
  obtain ⟨g, _, es', ep', hdat', hsz, hat⟩ := a4M I.hok hq
  rw [hdat] at hdat'
  obtain ⟨rfl, rfl⟩ : es = es' ∧ ep = ep' := by injection hdat' with a b; exact ⟨a, b⟩
  obtain ⟨f0, f1, f2, f3, f4, f5⟩ := hf it (by simp)
  exact a7S (I.ok.hd hc) st g hdat (by lia) fun h' eb => ⟨rfl, I.turned (t' := s.toks) (fun b o hb e => eb b o hb e) f0 f1 f3 f4 f5⟩
 self := fun A i s Q E st h => by
  obtain ⟨es, ep, ok, ov, hdat, st⟩ := st
  exact PySem.W.kcp_self st h
noncomputable def prTs (D : List (List Int × T)) : List T := D.map fun d => .tup [.dic d.1 [], d.2]
theorem a3M (D : List (List Int × T)) : (prTs D).length = D.length := List.length_map ..
theorem a9O {κ : Type} {K : PySem.W.Frag} {H : Hp} : ∀ {xs : List (κ × V)} {kvs : List (κ × T)} {i : Nat} {kv : κ × T}, KRep K H xs kvs → kvs[i]? = some kv → ∃ x, xs[i]? = some x ∧ x.1 = kv.1 ∧ Rep K H x.2 kv.2
 | [], [], _, _, _, e => by simp at e
 | p :: r, q :: u, 0, kv, h, e => by simp at e; subst e; exact ⟨p, rfl, h.1, h.2.1⟩
 | p :: r, q :: u, i + 1, kv, h, e => by
   obtain ⟨x, a, b⟩ := a9O (i := i) h.2.2 (by simpa using e)
   exact ⟨x, by simpa using a, b⟩
 | [], q :: u, _, _, h, _ => h.elim
 | p :: r, [], _, _, h, _ => h.elim
theorem b0N {K : PySem.W.Frag} {H : Hp} {d : Addr} {o : Obj} {D : List (List Int × T)} {xs : List (List Key × V)} (g : H d = some (.frz o (.dT xs))) (r : KRep K H xs (dtI D)) : ItOk K H (Iti d o) ⟨prTs D, fun _ => True⟩ := by
 have hl := r.length
 unfold dtI at hl
 rw [List.length_map] at hl
 refine ⟨fun H' M' k hh _ => ⟨xs, k.frz _ _ _ g, ?_⟩, fun i x H' M' e k hh _ => ?_⟩
 ·show xs.length ≤ (prTs D).length
  rw [a3M, hl]; exact Nat.le_refl _
 ·unfold prTs at e
  rw [List.getElem?_map] at e
  obtain ⟨dv, e1, rfl⟩ := Option.map_eq_some_iff.mp e
  obtain ⟨xv, e2, e3, e4⟩ := a9O (i := i) (kv := (kyI dv.1, dv.2)) r (by unfold dtI; rw [List.getElem?_map, e1]; rfl)
  refine ⟨⟨xs, xv, k.frz _ _ _ g, e2⟩, fun v H'' y => ?_⟩
  obtain ⟨T0, y1, z1, rfl, hn, rfl, hy⟩ := y
  obtain ⟨hb, rfl⟩ := hy xs xv (k.frz _ _ _ g) e2
  rw [e3, a7N] at hb
  refine ⟨Kp.new hn, hh.keep hn, a1f (SqT.of a0s) ?_⟩
  unfold Reps
  refine ⟨_, _, rfl, a8E ((Kp.new (K := K) hn).tr _ _ hb), ?_⟩
  unfold Reps
  refine ⟨_, _, rfl, Rep.kp (k.trans (Kp.new hn)) _ _ e4, ?_⟩
  unfold Reps
  rfl
noncomputable def b4P (tl : TE3) : TI3 := fun ρ M R => tl ρ M fun x M1 => match x with
 | .adr p => (match M1 p with | some (.dt kvs) => ∃ D, kvs = dtI D ∧ R ⟨prTs D, fun _ => True⟩ (updM M1 p (.fz kvs)) | _ => False)
 | _ => False
section
variable {X : Cx}
theorem b2x {es0 : List Expr} {x0} {tp : Pos} {l : Expr} {tl : TE3} {apos cpos : Pos} (hl : HE X l tl) (hbase : attributeBase l "items" X.env (eval l X.env) = eval l X.env := by rfl) (hline : (apos.endLine == cpos.line) = true := by rfl) :
  HI X (.Tuple es0 x0 tp) (.Call (.Attribute l "items" apos) [] [] cpos) (b4P tl) := by
 intro ρ M R h pins s σ H R2 I b
 obtain ⟨hr, hh, en⟩ := b
 refine wpAny_Call_method0_late hbase hline (thn (hl ρ M _ h pins s σ H (fun v H1 => ∃ t M1, Kp X.K H H1 ∧ HR X.K H1 M1 ∧ Rep X.K H1 v t ∧ (match t with
  | .adr p => (match M1 p with | some (.dt kvs) => ∃ D, kvs = dtI D ∧ R ⟨prTs D, fun _ => True⟩ (updM M1 p (.fz kvs)) | _ => False)
  | _ => False)) I ⟨hr, hh, fun t v M1 H1 k1 h1 r1 q1 => ⟨t, M1, k1, h1, r1, q1⟩⟩) fun v s1 ⟨x, H1, I1, rv, t, M1, k1, h1, r1, q1⟩ => ?_)
 split at q1
 ·rename_i a
  obtain rfl := a0v r1
  cases rv
  split at q1
  ·rename_i kvs e0
   obtain ⟨D, rfl, q1⟩ := q1
   obtain ⟨xs, g1, g2⟩ := h1 _ _ e0
   obtain ⟨hT, hnd, hsm⟩ := b4O I1 (a := a) (.inr ⟨xs, .inl g1⟩)
   refine ⟨"dict", "dict.items", PySem.F.plainAttrs_dict, PySem.F.slot_dict_items, PySem.F.type_dict_items, hT, hnd, Calls.callWith_builtin rfl (PySem.evalArgs_none (a7R hT hsm ?_))⟩
   have Iv : Inv X pins σ H1 { s1 with heap := s1.heap.push { cls := .type "dict_items", data := .fields #[.ref a] } } := I1.kept (t' := s1.toks) fun b o e => Heap.get?_push_of_some _ e
   have hv : ({ s1 with heap := s1.heap.push { cls := .type "dict_items", data := .fields #[.ref a] } } : Shared).heap.IsItemsView s1.heap.objs.size a := ⟨_, Heap.get?_push_size _ rfl, rfl, rfl⟩
   generalize ({ s1 with heap := s1.heap.push { cls := .type "dict_items", data := .fields #[.ref a] } } : Shared) = s2 at Iv hv ⊢
   obtain ⟨z, y, xs2, r, o, es, ep, h1', h2, h3, h4, h5⟩ := (show a0R X.prog X.w H1 s2.heap a (.dT xs) from Iv.hok a _ g1)
   have kd := Kp.dict (K := X.K) (u := .frz o (.dT xs)) g1 (.inr ⟨_, rfl⟩)
   have I2 : Inv X pins σ (upd H1 a (.frz o (.dT xs))) s2 := Iv.write (t' := s2.toks) (by rw [g1]; trivial) (.inl rfl) (fun b u _ e => e) ⟨o, h1'⟩
    ⟨h1', z, y, xs2, Paired.mapP r fun p q w => ⟨w.1, by rw [a0l (b6k w.2.1 g1 (by intro z; cases z))]; exact w.2.1, w.2.2⟩, o, es, ep, h1', h2, h3, h4, h5⟩
   have gr : KRep X.K (upd H1 a (.frz o (.dT xs))) xs (dtI D) := g2.kp kd
   refine a6X hv h1' h3 ?_
   refine ⟨s2.heap.objs.size, [s2.heap.objs.size], _, _, _, rfl, I2.kept (t' := s2.toks) fun b o e => Heap.get?_push_of_some _ e, b0o a o _, ⟨es, ep, _, _, h3, Heap.get?_push_size _ rfl⟩, fun b hb => ?_, en ⟨prTs D, fun _ => True⟩ _ (updM M1 a (.fz (dtI D))) _ (k1.trans kd) (fun c u ec => ?_) (b0N a0s gr) q1⟩
   ·have e : b = s2.heap.objs.size := by simpa using hb
    subst e
    exact I2.fpOk (Nat.le_refl _) (I2.hok.fresh (Nat.le_refl _))
   ·by_cases hc : c = a
    ·subst hc
     rw [a0d] at ec; cases ec
     exact ⟨o, xs, a0s, gr⟩
    ·rw [a0x hc] at ec
     exact (h1 c u ec).kp kd fun u _ q => by rw [a0l hc]; exact q
  ·exact q1.elim
 ·exact q1.elim
end
noncomputable def rInK (f : Bool → Bool) : R3 := fun x y M Q => match y with
 | .adr p => (match M p with
   | some (.dk kvs) => ∃ kk, x = keyT kk ∧ Q (.bl (f (valT kvs kk).isSome)) M
   | _ => False)
 | _ => False
theorem b2m {κ : Type} [DecidableEq κ] {K : PySem.W.Frag} {H : Hp} {xs : List (κ × V)} {kvs : List (κ × T)} (h : KRep K H xs kvs) (k : κ) : (valV xs k).isSome = (valT kvs k).isSome := by
 have := h.val k
 cases e : valT kvs k with
 | none => rw [e] at this; rw [this]; rfl
 | some t => rw [e] at this; obtain ⟨v, e1, _⟩ := this; rw [e1]; rfl
section
variable {X : Cx}
theorem a6a (hu : X.A.units + 64 < cLine) : OpR3 X (compareOp .NotIn) (rInK not) := by
 intro pins s σ H x y v u Q2 I rx ry q
 obtain ⟨a, b, M, Q, r1, r2, hh, q, en⟩ := q
 unfold rInK at q
 split at q
 ·split at q
  ·rename_i kvs e
   obtain ⟨kk, rfl, q⟩ := q
   obtain rfl := a0v r2
   obtain rfl := a5j r1
   obtain ⟨xs, g1, g2⟩ := hh _ _ e
   cases ry
   refine b6H (by lia) I (DGet.k (k := kk) g1) rx fun s' I' => ⟨.bl _, H, I', rfl, en _ _ M H Kp.refl hh a2Y ?_⟩
   rw [b2m g2 kk]; exact q
  ·exact q.elim
 ·exact q.elim
end
noncomputable abbrev Nst := List Nat
noncomputable def decN : Nat → Nat → Nst
 | 0, _ => []
 | k + 1, c => c % 16 :: decN k (c / 16)
noncomputable def codN : Nat → List Nat
 | 1 => [1]
 | 2 => [4146, 8961]
 | 3 => [2164035, 2311425, 4522275, 4530945, 213285]
 | 4 => [839939668, 843412993, 895512868, 1729110868, 895644673, 1732584193, 809857318, 1731219748, 358622068, 1731351553, 1164387073, 1732575523, 272966518, 1164378403]
 | 5 => [288317081445, 288390481665, 289491484965, 307107537765, 588964382565, 289493583105, 307180937985, 589037782785, 287853609255, 307141108005, 590138786085, 280901526405, 589501506405, 169668200805, 307143206145, 590140884225, 298089784065, 589574906625, 169741601025, 307180929315, 588500910375, 589535076645, 444680323365, 279263650695, 590138647365, 143462189445, 589537174785, 444682421505, 590143103745, 160650447105, 298089775395, 589574897955, 32302645545, 588500771655, 444680184645, 141824313735, 444684641025, 590143095075, 23211491625, 32302506825, 444684632355, 23211352905]
 | 6 => [92574005762166, 92575465379841, 92597359644966, 92947667886966, 98552599758966, 188231509710966, 92597393200641, 92949127504641, 98554059376641, 188232969328641, 92566875443496, 92948204777766, 98575953641766, 188254863593766, 92459920663446, 98561190011766, 188605171835766, 90748644182646, 188368953755766, 63368220489846, 92948238333441, 98575987197441, 188254897149441, 92803669041921, 98562649629441, 188606631453441, 90750103800321, 188370413373441, 63369680107521, 92949127495971, 98545469440296, 188224379392296, 98561726902566, 188605708726566, 96248618238246, 188392307638566, 63391574372646, 92429436461976, 98575953503046, 188117424612246, 188377544008566, 151367805379446, 90260896959126, 188605169616246, 55564264913526, 98561760458241, 188605742282241, 96248651793921, 188392341194241, 63391607928321, 98576020939521, 188461172990721, 188379003626241, 151369264997121, 90604645337601, 188606629233921, 55565724531201, 92803669033251, 98562649620771, 188606631444771, 88551080542506, 188361823437096, 63361090171176, 188378080899366, 151368342270246, 188606248599846, 61064238969126, 98545469301576, 188086940410776, 96248618099526, 188392307499846, 28207202247606, 90230412757656, 188117422392726, 151367803159926, 55076517690006, 188378114455041, 151368375825921, 188606282155521, 61064272524801, 96248685536001, 188392374936321, 116168317018881, 188461170771201, 151369262777601, 55420266068481, 98576020930851, 188461172982051, 188379003617571, 151369264988451, 88405622079786, 188606627135781, 53366701273386, 151368882143526, 88551080403786, 188361823298376, 28176718046136, 188606248461126, 25879866844086, 188086938191256, 28207200028086, 55046033488536, 151368915699201, 188606315897601, 113840981615361, 116168314799361, 96248685527331, 188392374927651, 116168317010211, 188461168673061, 151369260679461, 53221242810666, 88405621941066, 188606626997061, 18182329148346, 151368882004806, 28176715826616, 25879864624566, 151368949441281, 113840979395841, 188606315888931, 113840981606691, 116168312701221, 188461168534341, 151369260540741, 18036870685626, 18182326928826, 151368949432611, 113840977297701, 116168312562501, 18036868466106, 113840977158981]
 | _ => []
noncomputable def nsts (m : Nat) : List Nst := (codN m).map (decN (2 * m))
noncomputable def gN (N : Nst) (k : Nat) : Nat := N.getD k 0
noncomputable def plN (m : Nat) : Nst := (List.range m).map (· + m) ++ List.range m
noncomputable def mlN (N : Nst) (i : Nat) : Bool := gN N (N.length / 2 + i) == N.length / 2 + i - 1
noncomputable def hkN (N : Nst) (i : Nat) : Nst := (((N.set (gN N (N.length / 2 + i - 1)) (gN N (N.length / 2 + i))).set (gN N (N.length / 2 + i)) (gN N (N.length / 2 + i - 1))).set (N.length / 2 + i - 1) (N.length / 2 + i)).set (N.length / 2 + i) (N.length / 2 + i - 1)
noncomputable def stN (i : Nat) (s : Nat × Nst) : Nat × Nst := if mlN s.2 i then (s.1 + 1, s.2) else (s.1, hkN s.2 i)
noncomputable def insN (seen : List Nat) (k : Nat) : List Nat := if seen.contains k then seen else seen ++ [k]
noncomputable def wkN (N : Nst) : Nat → List Nat → Nat → List Nat
 | 0, seen, _ => seen
 | f + 1, seen, a => if seen.contains a then seen else wkN N f (insN (insN seen a) (gN N a)) ((gN N a + N.length / 2) % N.length)
noncomputable def lpS (N : Nst) : Nat → Nat → List Nat → Nat
 | 0, _, _ => 0
 | j + 1, b, seen => (if seen.contains b then 0 else 1) + lpS N j (b + 1) (wkN N (N.length + 1) seen b)
noncomputable def lpN (N : Nst) : Nat := lpS N (N.length / 2) 0 []
noncomputable def mtN (N : Nst) (i : Nat) : Bool := gN N i == i - 1
noncomputable def htN (N : Nst) (i : Nat) : Nst := (((N.set (gN N (i - 1)) (gN N i)).set (gN N i) (gN N (i - 1))).set (i - 1) i).set i (i - 1)
noncomputable def upN (i : Nat) (s : Nat × Nst) : Nat × Nst := if mtN s.2 i then (s.1 + 1, s.2) else (s.1, htN s.2 i)
noncomputable def mrN (N : Nst) : Nst := let m := N.length / 2; let g := fun x => if x < m then x else x + 1; ((List.range m).map fun k => g (gN N k)) ++ [2 * m + 1] ++ ((List.range m).map fun k => g (gN N (m + k))) ++ [m]
noncomputable def far2 (i j : Nat) : Bool := i + 1 < j || j + 1 < i
noncomputable def b6j (i j : Nat) : Bool := i + 1 == j || j + 1 == i
noncomputable def hks (m : Nat) : List Nat := (List.range (m - 1)).map (· + 1)
noncomputable def ckA (m : Nat) : Bool := (nsts m).all fun N => N.length == 2 * m && (N.all (· < 2 * m)) && (hks m).all fun i => mlN N i || (mlN (hkN N i) i && (nsts m).contains (hkN N i))
noncomputable def ckB (m : Nat) : Bool := (nsts m).all fun N => (hks m).all fun i => (hks m).all fun j => if far2 i j then stN i (stN j (0, N)) == stN j (stN i (0, N)) else if b6j i j then stN i (stN j (stN i (0, N))) == stN i (0, N) else true
theorem b6N : ckA 1 && ckA 2 && ckA 3 && ckA 4 && ckA 5 && ckA 6 = true := by decide +kernel
theorem b6M : ckB 1 && ckB 2 && ckB 3 && ckB 4 && ckB 5 && ckB 6 = true := by decide +kernel
noncomputable def ckP (m : Nat) : Bool := (nsts m).contains (plN m)
theorem b6K : ckP 1 && ckP 2 && ckP 3 && ckP 4 && ckP 5 && ckP 6 = true := by decide +kernel
noncomputable def frN {α : Type} (n : Nat) (k : Nat → α) : α := match n with
 | 0 => k 0
 | p + 1 => k (p + 1)
theorem b8I {α : Type} (n : Nat) (k : Nat → α) : frN n k = k n := by cases n <;> rfl
noncomputable def encN (N : Nst) : Nat := N.foldr (fun x c => x + 16 * c) 0
noncomputable def fcN (l : Nat) (N : Nst) (k : Nst → Bool) : Bool := frN (encN N) fun c => N == decN l c && k (decN l c)
theorem a4N {l : Nat} {N : Nst} {k : Nst → Bool} (h : fcN l N k = true) : k N = true := by
 unfold fcN at h
 rw [b8I, Bool.and_eq_true, beq_iff_eq] at h
 rw [h.1]; exact h.2
noncomputable def ckC (l i j : Nat) (N : Nst) : Bool := fcN l (stN j (0, N)).2 fun A => fcN l (upN i (0, N)).2 fun B => upN i ((stN j (0, N)).1, A) == stN j ((upN i (0, N)).1, B)
noncomputable def ckT (l i : Nat) (N : Nst) : Bool := fcN l (stN i (0, N)).2 fun A => fcN l (upN i (0, N)).2 fun B => (upN i (0, N)).1 + lpN B == (stN i (0, N)).1 + lpN A
noncomputable def ckU (m i : Nat) (N : Nst) : Bool := fcN (2 * m) (upN i (0, N)).2 fun B => (nsts m).contains B
noncomputable def alC (m : Nat) : Bool := (nsts m).all fun N => (hks m).all fun i => (hks m).all fun j => ckC (2 * m) i j N
noncomputable def alT (m : Nat) : Bool := (nsts m).all fun N => decide (0 < lpN N) && (hks m).all fun i => ckT (2 * m) i N
noncomputable def alU (m : Nat) : Bool := (nsts m).all fun N => (hks m).all fun i => ckU m i N
theorem b6U : alC 1 && alC 2 && alC 3 && alC 4 && alC 5 && alC 6 = true := by decide +kernel
theorem b3i : alT 1 && alT 2 && alT 3 && alT 4 && alT 5 && alT 6 = true := by decide +kernel
theorem b6T : alU 1 && alU 2 && alU 3 && alU 4 && alU 5 && alU 6 = true := by decide +kernel
noncomputable def ckCp (m : Nat) : Bool := (hks m).all fun i => upN i (0, plN m) == stN i (0, plN m)
theorem b4s : ckCp 1 && ckCp 2 && ckCp 3 && ckCp 4 && ckCp 5 && ckCp 6 = true := by decide +kernel
noncomputable abbrev NF := Nst → Lp
noncomputable def xL (k : Int) : Lp := toL [(k, 1)]
noncomputable def dlt : Lp := toL [(-2, -1), (2, -1)]
noncomputable def uF (i : Nat) (f : NF) : NF := fun N => if mlN N i then dlt * f N else f (hkN N i)
noncomputable def vF (i : Nat) (f : NF) : NF := fun N => if mtN N i then dlt * f N else f (htN N i)
noncomputable def tF (l : Int) (f : NF) : NF := fun N => xL (sgI l) * f N + xL (-(sgI l)) * uF l.natAbs f N
noncomputable def sF (l : Int) (f : NF) : NF := fun N => xL (sgI l) * f N + xL (-(sgI l)) * vF l.natAbs f N
noncomputable def phi : List Int → NF → NF
 | [], f => f
 | l :: w, f => tF l (phi w f)
noncomputable def trF : NF := fun N => powL dlt (lpN N - 1)
noncomputable def stS (n : Nat) (w : List Int) : Lp := phi w trF (plN n)
noncomputable def FU (f : NF) (s : Nat × Nst) : Lp := powL dlt s.1 * f s.2
theorem a4X (x : Lp) : ∀ a b : Nat, powL x (a + b) = powL x a * powL x b
 | a, 0 => by show powL x a = powL x a * 1; grind
 | a, b + 1 => by
   show powL x (a + b) * x = powL x a * (powL x b * x)
   rw [a4X x a b]; grind
theorem a9w (x : Lp) : powL x 1 = x := by show 1 * x = x; grind
theorem a4H (a b : Int) : xL (a + b) = xL a * xL b := by unfold xL; rw [a4Y]; rfl
theorem xL_0 : xL 0 = 1 := rfl
theorem b2N : dlt = -(xL 2) - xL (-2) := by
 have e : dlt = toL (addP [(-2, -1)] [(2, -1)]) := rfl
 have e1 : -(xL 2) = toL [(2, -1)] := by
  show sgU (-1) * xL 2 = _
  unfold sgU xL; rw [a4Y]; rfl
 have e2 : toL [(-2, -1)] = -(xL (-2)) := by
  show _ = sgU (-1) * xL (-2)
  unfold sgU xL; rw [a4Y]; rfl
 rw [e, a6s, e2, ← e1]
 grind
theorem b6X (l : Int) : xL (sgI l) * xL (-(sgI l)) = 1 := by rw [← a4H, show sgI l + -(sgI l) = 0 by lia, xL_0]
theorem b4V (l : Int) : dlt = -(xL (sgI l) * xL (sgI l)) - xL (-(sgI l)) * xL (-(sgI l)) := by
 rw [b2N, ← a4H, ← a4H]
 unfold sgI
 split
 ·show -(xL 2) - xL (-2) = -(xL (-2)) - xL 2; grind
 ·show -(xL 2) - xL (-2) = -(xL 2) - xL (-2); rfl
theorem FU_u (f : NF) (i : Nat) (s : Nat × Nst) : FU (uF i f) s = FU f (stN i s) := by
 unfold FU uF stN
 by_cases h : mlN s.2 i = true
 ·rw [if_pos h, if_pos h]
  show _ = powL dlt s.1 * dlt * f s.2
  grind
 ·rw [if_neg h, if_neg h]
theorem FU_v (f : NF) (i : Nat) (s : Nat × Nst) : FU (vF i f) s = FU f (upN i s) := by
 unfold FU vF upN
 by_cases h : mtN s.2 i = true
 ·rw [if_pos h, if_pos h]
  show _ = powL dlt s.1 * dlt * f s.2
  grind
 ·rw [if_neg h, if_neg h]
theorem FU_0 (f : NF) (N : Nst) : FU f (0, N) = f N := by show 1 * f N = f N; grind
theorem u_st (f : NF) (i : Nat) (N : Nst) : uF i f N = FU f (stN i (0, N)) := by rw [← FU_u, FU_0]
theorem v_up (f : NF) (i : Nat) (N : Nst) : vF i f N = FU f (upN i (0, N)) := by rw [← FU_v, FU_0]
theorem b0l (i : Nat) (a b : Lp) (f g : NF) : uF i (fun N => a * f N + b * g N) = fun N => a * uF i f N + b * uF i g N := funext fun N => by
 unfold uF
 split <;> grind
theorem b9d (i : Nat) (a b : Lp) (f g : NF) : vF i (fun N => a * f N + b * g N) = fun N => a * vF i f N + b * vF i g N := funext fun N => by
 unfold vF
 split <;> grind
theorem b9k (l : Int) (a b : Lp) (f g : NF) : tF l (fun N => a * f N + b * g N) = fun N => a * tF l f N + b * tF l g N := funext fun N => by
 unfold tF
 rw [b0l]; grind
theorem b9j (l : Int) (a : Lp) (f : NF) : tF l (fun N => a * f N) = fun N => a * tF l f N := by
 have e := b9k l a 0 f f
 have e1 : (fun N => a * f N + 0 * f N) = fun N => a * f N := funext fun N => by grind
 rw [e1] at e
 rw [e]; funext N; grind
theorem a8J (a : Lp) : ∀ (w : List Int) (f : NF), phi w (fun N => a * f N) = fun N => a * phi w f N
 | [], f => rfl
 | l :: w, f => by
   show tF l (phi w fun N => a * f N) = fun N => a * tF l (phi w f) N
   rw [a8J a w f, b9j]
theorem a0L : ∀ (w v : List Int) (f : NF), phi (w ++ v) f = phi w (phi v f)
 | [], v, f => rfl
 | l :: w, v, f => congrArg (tF l) (a0L w v f)
noncomputable def Cm (m : Nat) : Prop := 1 ≤ m ∧ m ≤ 6
theorem Cm.cases {P : Nat → Prop} {m : Nat} (h : Cm m) (h1 : P 1) (h2 : P 2) (h3 : P 3) (h4 : P 4) (h5 : P 5) (h6 : P 6) : P m := by
 obtain ⟨a, b⟩ := h
 match m with
 | 0 => exact absurd a (by decide)
 | 1 => exact h1
 | 2 => exact h2
 | 3 => exact h3
 | 4 => exact h4
 | 5 => exact h5
 | 6 => exact h6
 | k + 7 => exact absurd b (by lia)
theorem Cm.all {c : Nat → Bool} {m : Nat} (h : Cm m) (hc : (c 1 && c 2 && c 3 && c 4 && c 5 && c 6) = true) : c m = true := by
 simp only [Bool.and_eq_true] at hc
 exact h.cases (P := fun m => c m = true) hc.1.1.1.1.1 hc.1.1.1.1.2 hc.1.1.1.2 hc.1.1.2 hc.1.2 hc.2
theorem a2S {m i : Nat} : i ∈ hks m ↔ 1 ≤ i ∧ i < m := by
 unfold hks
 rw [List.mem_map]
 constructor
 ·rintro ⟨k, hk, rfl⟩
  rw [List.mem_range] at hk
  lia
 ·rintro ⟨a, b⟩
  exact ⟨i - 1, List.mem_range.mpr (by lia), by lia⟩
section
variable {m : Nat} (hm : Cm m)
include hm
theorem a4L : plN m ∈ nsts m := List.contains_iff_mem.mp (hm.all b6K)
theorem a5q {N : Nst} (hN : N ∈ nsts m) : N.length = 2 * m ∧ (∀ x ∈ N, x < 2 * m) ∧ ∀ i, 1 ≤ i → i < m → mlN N i = false → mlN (hkN N i) i = true ∧ hkN N i ∈ nsts m := by
 have h := List.all_eq_true.mp (show (nsts m).all _ = true from hm.all b6N) N hN
 simp only [Bool.and_eq_true, beq_iff_eq, List.all_eq_true, decide_eq_true_eq, Bool.or_eq_true] at h
 refine ⟨h.1.1, h.1.2, fun i a b c => ?_⟩
 rcases h.2 i (a2S.mpr ⟨a, b⟩) with z | z
 ·rw [c] at z; cases z
 ·exact ⟨z.1, List.contains_iff_mem.mp z.2⟩
theorem b1v {N : Nst} (hN : N ∈ nsts m) {i k : Nat} (a : 1 ≤ i) (b : i < m) : (stN i (k, N)).2 ∈ nsts m := by
 unfold stN
 by_cases h : mlN N i = true
 ·rw [if_pos h]; exact hN
 ·rw [if_neg h]; exact ((a5q hm hN).2.2 i a b (by simpa using h)).2
theorem u_u {N : Nst} (hN : N ∈ nsts m) {i : Nat} (a : 1 ≤ i) (b : i < m) (f : NF) : uF i (uF i f) N = dlt * uF i f N := by
 by_cases h : mlN N i = true
 ·have e : ∀ g : NF, uF i g N = dlt * g N := fun g => if_pos h
  rw [e]
 ·obtain ⟨h1, _⟩ := (a5q hm hN).2.2 i a b (by simpa using h)
  have e : ∀ g : NF, uF i g N = g (hkN N i) := fun g => if_neg h
  rw [e, e]
  exact if_pos h1
theorem b5f {N : Nst} (hN : N ∈ nsts m) {i j : Nat} (a : 1 ≤ i) (b : i < m) (c : 1 ≤ j) (d : j < m) : (if far2 i j then stN i (stN j (0, N)) == stN j (stN i (0, N)) else if b6j i j then stN i (stN j (stN i (0, N))) == stN i (0, N) else true) = true :=
 List.all_eq_true.mp (List.all_eq_true.mp (List.all_eq_true.mp (show (nsts m).all _ = true from hm.all b6M) N hN) i (a2S.mpr ⟨a, b⟩)) j (a2S.mpr ⟨c, d⟩)
theorem b9h {N : Nst} (hN : N ∈ nsts m) {i j : Nat} (a : 1 ≤ i) (b : i < m) (c : 1 ≤ j) (d : j < m) (h : i + 1 < j ∨ j + 1 < i) (f : NF) : uF i (uF j f) N = uF j (uF i f) N := by
 have e := b5f hm hN a b c d
 rw [if_pos (by unfold far2; simpa using h), beq_iff_eq] at e
 rw [u_st, FU_u, u_st, FU_u, e]
theorem b4x {N : Nst} (hN : N ∈ nsts m) {i j : Nat} (a : 1 ≤ i) (b : i < m) (c : 1 ≤ j) (d : j < m) (h : i + 1 = j ∨ j + 1 = i) (f : NF) : uF i (uF j (uF i f)) N = uF i f N := by
 have e := b5f hm hN a b c d
 rw [if_neg (by unfold far2; simp; lia), if_pos (by unfold b6j; simpa using h), beq_iff_eq] at e
 rw [u_st, FU_u, FU_u, e, u_st]
end
noncomputable def EqF (m : Nat) (f g : NF) : Prop := ∀ N ∈ nsts m, f N = g N
noncomputable def LetN (m : Nat) (l : Int) : Prop := 1 ≤ l.natAbs ∧ l.natAbs < m
section
variable {m : Nat} (hm : Cm m)
include hm
theorem EqF.u {f g : NF} (h : EqF m f g) {i : Nat} (a : 1 ≤ i) (b : i < m) : EqF m (uF i f) (uF i g) := fun N hN => by
 unfold uF
 by_cases c : mlN N i = true
 ·rw [if_pos c, if_pos c, h N hN]
 ·rw [if_neg c, if_neg c]
  exact h _ ((a5q hm hN).2.2 i a b (by simpa using c)).2
theorem EqF.t {f g : NF} (h : EqF m f g) {l : Int} (hl : LetN m l) : EqF m (tF l f) (tF l g) := fun N hN => by
 unfold tF
 rw [h N hN, EqF.u hm h hl.1 hl.2 N hN]
theorem EqF.phi : ∀ {w : List Int} {f g : NF}, (∀ l ∈ w, LetN m l) → EqF m f g → EqF m (phi w f) (phi w g)
 | [], f, g, _, h => h
 | l :: w, f, g, hw, h => EqF.t hm (EqF.phi (fun x hx => hw x (.tail _ hx)) h) (hw l (.head _))
theorem b9i {l : Int} (hl : LetN m l) (f : NF) : EqF m (tF l (tF (-l) f)) f := fun N hN => by
 have es : sgI (-l) = -(sgI l) := by obtain ⟨a, _⟩ := hl; unfold sgI; split <;> split <;> lia
 have e : tF (-l) f = fun N => xL (-(sgI l)) * f N + xL (sgI l) * uF l.natAbs f N := by
  unfold tF
  rw [es, Int.neg_neg, Int.natAbs_neg]
 rw [e]
 unfold tF
 rw [b0l]
 dsimp only
 rw [u_u hm hN hl.1 hl.2]
 have h1 := b6X l
 have h2 := b4V l
 generalize xL (sgI l) = a at *
 generalize xL (-(sgI l)) = b at *
 generalize uF l.natAbs f N = u at *
 generalize f N = v at *
 rw [h2]
 clear hl es e hN hm
 grind
theorem b9l {p q : Int} (hp : LetN m p) (hq : LetN m q) (h : p.natAbs + 1 < q.natAbs ∨ q.natAbs + 1 < p.natAbs) (f : NF) : EqF m (tF p (tF q f)) (tF q (tF p f)) := fun N hN => by
 have e := b9h hm hN hp.1 hp.2 hq.1 hq.2 h f
 unfold tF
 rw [b0l, b0l]
 dsimp only
 rw [e]
 clear hm hN e hp hq h
 grind
theorem b5m {p q : Int} (hp : LetN m p) (hq : LetN m q) (hs : p * q > 0) (h : (p - q).natAbs = 1) (f : NF) : EqF m (tF p (tF q (tF p f))) (tF q (tF p (tF q f))) := fun N hN => by
 have hpq : sgI p = sgI q := by
  unfold sgI
  rcases Int.lt_trichotomy p 0 with c | c | c
  ·have : q < 0 := by
    by_cases z : q < 0
    ·exact z
    ·have y : p * q ≤ 0 := Int.mul_nonpos_of_nonpos_of_nonneg (by lia) (by lia)
     lia
   rw [if_pos c, if_pos this]
  ·rw [c] at hs; lia
  ·have : 0 < q := by
    by_cases z : 0 < q
    ·exact z
    ·have y : p * q ≤ 0 := Int.mul_nonpos_of_nonneg_of_nonpos (by lia) (by lia)
     lia
   rw [if_neg (by lia), if_neg (by lia)]
 have hn : p.natAbs + 1 = q.natAbs ∨ q.natAbs + 1 = p.natAbs := by
  unfold sgI at hpq
  split at hpq <;> split at hpq <;> lia
 have e1 := b4x hm hN hp.1 hp.2 hq.1 hq.2 hn f
 have e2 := b4x hm hN hq.1 hq.2 hp.1 hp.2 hn.symm f
 have e3 := u_u hm hN hp.1 hp.2 f
 have e4 := u_u hm hN hq.1 hq.2 f
 unfold tF
 rw [hpq]
 simp only [b0l]
 rw [e1, e2, e3, e4]
 have h1 := b6X q
 have h2 := b4V q
 generalize xL (sgI q) = a at *
 generalize xL (-(sgI q)) = b at *
 generalize uF p.natAbs f N = u at *
 generalize uF q.natAbs f N = v at *
 generalize uF p.natAbs (uF q.natAbs f) N = y at *
 generalize uF q.natAbs (uF p.natAbs f) N = z at *
 generalize f N = x at *
 rw [h2]
 clear e1 e2 e3 e4 h2 hn hpq hs h hp hq hN hm
 grind
theorem b5Y {n : Int} (hn : n = m) {w v : List Int} (h : RelW n w v) : ∀ f, EqF m (phi w f) (phi v f) := by
 subst hn
 have lt : ∀ {l : Int}, LetOK m l → LetN m l := fun {l} h => by unfold LetOK at h; unfold LetN; lia
 induction h with
 | refl w => intro f N _; rfl
 | symm _ ih => intro f N hN; exact (ih f N hN).symm
 | trans _ _ i1 i2 => intro f N hN; exact (i1 f N hN).trans (i2 f N hN)
 | ctx a b ha hb _ ih => intro f; rw [a0L, a0L, a0L, a0L]; exact EqF.phi hm (fun l hl => lt (ha l hl)) (ih _)
 | far a b h => exact fun f => b9l hm (lt a) (lt b) h f
 | three a b c d => exact fun f => b5m hm (lt a) (lt b) c d f
 | out a => exact fun f => b9i hm (lt a) f
end
noncomputable def ckI (m : Nat) : Bool := (nsts m).all fun N => (List.range (2 * m)).all fun p => decide (gN N p < 2 * m) && (gN N (gN N p) == p) && (gN N p != p)
theorem b6L : ckI 1 && ckI 2 && ckI 3 && ckI 4 && ckI 5 && ckI 6 = true := by decide +kernel
theorem b2b {m : Nat} (hm : Cm m) {N : Nst} (hN : N ∈ nsts m) {p : Nat} (hp : p < 2 * m) : gN N p < 2 * m ∧ gN N (gN N p) = p ∧ gN N p ≠ p := by
 have h := List.all_eq_true.mp (List.all_eq_true.mp (show (nsts m).all _ = true from hm.all b6L) N hN) p (List.mem_range.mpr hp)
 simp only [Bool.and_eq_true, beq_iff_eq, decide_eq_true_eq, bne_iff_ne] at h
 exact ⟨h.1.1, h.1.2, h.2⟩
noncomputable def EvB (b : Nat) (p : Po) : Prop := ∀ x ∈ p, x.1.natAbs ≤ b ∧ (x.1 - b) % 2 = 0
noncomputable def GdE (b : Nat) (p : Po) : Prop := CanP p ∧ EvB b p
noncomputable def stpE (b : Nat) : List Int := (List.range (b + 1)).map fun (i : Nat) => 2 * (i : Int) - b
theorem a6u (b : Nat) : (stpE b).length = b + 1 := by unfold stpE; rw [List.length_map, List.length_range]
theorem a4Z {b : Nat} {x : Int} (h : x.natAbs ≤ b ∧ (x - b) % 2 = 0) : x ∈ stpE b := List.mem_map.mpr ⟨((x + b) / 2).toNat, List.mem_range.mpr (by lia), by show 2 * ((((x + b) / 2).toNat : Nat) : Int) - b = x; lia⟩
theorem EvB.norm {b : Nat} {p : Po} (h : EvB b p) : EvB b (norm p) := fun x hx => by
 obtain ⟨y, hy, e⟩ := a9H x hx
 rw [← e]; exact h y hy
theorem EvB.add {b : Nat} {p q : Po} (hp : EvB b p) (hq : EvB b q) : EvB b (addP p q) := EvB.norm fun x hx => (List.mem_append.mp hx).elim (hp x) (hq x)
theorem EvB.sum {a b : Nat} {p q : Po} (hp : EvB a p) (hq : EvB b q) {x y : Int × Int} (hx : x ∈ p) (hy : y ∈ q) : (x.1 + y.1).natAbs ≤ a + b ∧ (x.1 + y.1 - ((a + b : Nat) : Int)) % 2 = 0 := by
 obtain ⟨h1, h2⟩ := hp x hx
 obtain ⟨g1, g2⟩ := hq y hy
 exact ⟨by lia, by lia⟩
theorem EvB.mul {a b : Nat} {p q : Po} (hp : EvB a p) (hq : EvB b q) : EvB (a + b) (a0Z p q) := EvB.norm fun x hx => by
 unfold rawM at hx
 obtain ⟨y, hy, hx⟩ := List.mem_flatMap.mp hx
 obtain ⟨z, hz, rfl⟩ := List.mem_map.mp hx
 exact hp.sum hq hy hz
theorem GdE.add {b : Nat} {p q : Po} (hp : GdE b p) (hq : GdE b q) : GdE b (addP p q) := ⟨a1c _, hp.2.add hq.2⟩
theorem GdE.mul {a b : Nat} {p q : Po} (hp : GdE a p) (hq : GdE b q) : GdE (a + b) (a0Z p q) := ⟨a1c _, hp.2.mul hq.2⟩
theorem GdE.up {b : Nat} {p : Po} (h : GdE b p) (k : Nat) {c : Nat} (e : c = b + 2 * k) : GdE c p := ⟨h.1, fun x hx => by obtain ⟨h1, h2⟩ := h.2 x hx; subst e; exact ⟨by lia, by lia⟩⟩
theorem GdE.nil (b : Nat) : GdE b [] := ⟨⟨.nil, fun _ z => absurd z List.not_mem_nil⟩, fun _ z => absurd z List.not_mem_nil⟩
theorem GdE.one : GdE 0 [(0, 1)] := ⟨⟨by decide, by decide⟩, by unfold EvB; decide⟩
theorem GdE.mono1 {s : Int} (h : s = 1 ∨ s = -1) : GdE 1 [(s, 1)] := by
 rcases h with rfl | rfl
 ·exact ⟨⟨by decide, by decide⟩, by unfold EvB; decide⟩
 ·exact ⟨⟨by decide, by decide⟩, by unfold EvB; decide⟩
theorem GdE.len {b : Nat} {p : Po} (h : GdE b p) : p.length ≤ b + 1 := by
 have hn : (p.map Prod.fst).Nodup := List.pairwise_map.mpr (h.1.1.imp fun h z => Int.ne_of_lt h z)
 have := List.Nodup.length_le_of_subset hn (l₂ := stpE b) fun k hk => by
  obtain ⟨x, hx, rfl⟩ := List.mem_map.mp hk
  exact a4Z (h.2 x hx)
 rwa [List.length_map, a6u] at this
noncomputable def lpP : Po := [(-2, -1), (2, -1)]
theorem GdE.lp : GdE 2 lpP := ⟨⟨by decide, by decide⟩, by unfold EvB; decide⟩
theorem Sml.lp : Sml lpP := by unfold Sml; decide
theorem Sml.one1 (s : Int) : Sml [(s, 1)] := fun x hx => by rw [List.mem_singleton.mp hx]; show (1 : Int).natAbs < 2 ^ 64; decide
noncomputable def dP : Nat → Po
 | 0 => [(0, 1)]
 | i + 1 => a0Z (dP i) lpP
theorem a5A : ∀ i, GdE (2 * i) (dP i)
 | 0 => GdE.one
 | i + 1 => (a5A i).mul GdE.lp
theorem b4A : ∀ i, toL (dP i) = powL dlt i
 | 0 => rfl
 | i + 1 => by
   show toL (a0Z (dP i) lpP) = powL dlt i * dlt
   rw [a2t, b4A i]; rfl
theorem b9a : ∀ i, N1 (dP i) ≤ 2 ^ i
 | 0 => by decide
 | i + 1 => by
   have := b9a i
   have h2 := b6V (dP i) lpP
   have h3 : N1 lpP = 2 := rfl
   rw [h3] at h2
   rw [Nat.pow_succ]
   exact Nat.le_trans h2 (Nat.mul_le_mul_right 2 this)
theorem Sml.dP {i : Nat} (h : i ≤ 40) : Sml (dP i) := fun x hx => Nat.lt_of_le_of_lt (Nat.le_trans (b8Z hx) (b9a i)) (Nat.pow_lt_pow_right (by decide) (by lia))
noncomputable def lwL (k : Nat) : List Po := [] :: (List.range k).map dP
theorem a9M (k : Nat) : lwL (k + 1) = lwL k ++ [dP k] := by unfold lwL; rw [List.range_succ, List.map_append]; rfl
theorem b2j (k : Nat) : (lwL k).length = k + 1 := by unfold lwL; rw [List.length_cons, List.length_map, List.length_range]
theorem b6p {k i : Nat} (h : i < k) : (lwL k)[i + 1]? = some (dP i) := by unfold lwL; rw [List.getElem?_cons_succ, List.getElem?_map, List.getElem?_range h]; rfl
theorem b1i (x : Lp) : toL x.1 = x := Lp.ext2 fun c => by rw [co_L]
theorem b5l {p : Po} (h : CanP p) : (toL p).1 = p := a3y (toL p).2 h fun c => by rw [co_L]
theorem b3J {p : Po} {x : Lp} (h : CanP p) (e : toL p = x) : p = x.1 := by rw [← e, b5l h]
theorem a7L {n : Nat} (hn : Cm n) {N : Nst} (hN : N ∈ nsts n) : 0 < lpN N := by
 have h := List.all_eq_true.mp (show (nsts n).all _ = true from hn.all b3i) N hN
 rw [Bool.and_eq_true, decide_eq_true_eq] at h
 exact h.1
theorem b6W {n : Nat} (hn : Cm n) {s : Nat × Nst} (hN : s.2 ∈ nsts n) : FU trF s = powL dlt (s.1 + lpN s.2 - 1) := by
 have := a7L hn hN
 unfold FU trF
 rw [← a4X]
 congr 1
 lia
noncomputable def nI (N : Nst) : List Int := List.map (fun (k : Nat) => (k : Int)) N
theorem a7K : ∀ {a b : Nst}, nI a = nI b → a = b
 | [], [], _ => rfl
 | x :: a, y :: b, h => by
   unfold nI at h
   rw [List.map_cons, List.map_cons] at h
   injection h with h1 h2
   rw [Int.ofNat.inj h1, a7K (a := a) (b := b) h2]
 | [], _ :: _, h => by unfold nI at h; rw [List.map_cons, List.map_nil] at h; cases h
 | _ :: _, [], h => by unfold nI at h; rw [List.map_cons, List.map_nil] at h; cases h
theorem a6V {a b : List Int} (h : kyI a = kyI b) : a = b := by
 unfold kyI at h
 exact List.map_inj_right (fun x y e => Sum.inl.inj e) |>.mp h
noncomputable abbrev DN := List (Nst × Po)
noncomputable def dtN (D : DN) : List (List Key × T) := D.map fun d => (kyI (nI d.1), poT d.2)
theorem b2M (D : DN) : dtN D = dtI (D.map fun d => (nI d.1, poT d.2)) := by unfold dtN dtI; rw [List.map_map]; rfl
theorem b6E (D : DN) : (dtN D).length = D.length := List.length_map ..
noncomputable def lkD : DN → Nst → Po
 | [], _ => []
 | d :: D, N => if d.1 = N then d.2 else lkD D N
noncomputable def setD : DN → Nst → Po → DN
 | [], N, p => [(N, p)]
 | d :: D, N, p => if d.1 = N then (N, p) :: D else d :: setD D N p
theorem a9o (N : Nst) : ∀ D : DN, (valT (dtN D) (kyI (nI N))).getD (T.tup []) = poT (lkD D N)
 | [] => rfl
 | d :: D => by
   have ih := a9o N D
   show (((((kyI (nI d.1), poT d.2) : List Key × T) :: dtN D).find? fun kv => decide (kv.1 = kyI (nI N))).map (·.2)).getD (T.tup []) = poT (if d.1 = N then d.2 else lkD D N)
   by_cases e : d.1 = N
   ·rw [if_pos e, List.find?_cons, decide_eq_true (show kyI (nI d.1) = kyI (nI N) by rw [e])]; rfl
   ·rw [if_neg e, List.find?_cons, decide_eq_false (fun z => e (a7K (a6V z)))]
    exact ih
theorem a7s (N : Nst) (p : Po) : ∀ D : DN, (setD D N p).map Prod.fst = if N ∈ D.map Prod.fst then D.map Prod.fst else D.map Prod.fst ++ [N]
 | [] => rfl
 | d :: D => by
   show ((if d.1 = N then (N, p) :: D else d :: setD D N p).map Prod.fst) = _
   by_cases h : d.1 = N
   ·rw [if_pos h, if_pos (by rw [List.map_cons, h]; exact .head _), List.map_cons, List.map_cons, h]
   ·rw [if_neg h, List.map_cons, a7s N p D, List.map_cons]
    by_cases g : N ∈ D.map Prod.fst
    ·rw [if_pos g, if_pos (.tail _ g)]
    ·rw [if_neg g, if_neg (fun z => (List.mem_cons.mp z).elim (fun e => h e.symm) g)]; rfl
theorem a9u {N : Nst} {p : Po} : ∀ {D : DN}, (D.map Prod.fst).Nodup → putT (dtN D) (kyI (nI N)) (poT p) = dtN (setD D N p)
 | [], _ => rfl
 | d :: D, h => by
   rw [List.map_cons, List.nodup_cons] at h
   have ih := a9u (N := N) (p := p) h.2
   show putT (((kyI (nI d.1), poT d.2) : List Key × T) :: dtN D) (kyI (nI N)) (poT p) = dtN (if d.1 = N then (N, p) :: D else d :: setD D N p)
   by_cases e : d.1 = N
   ·rw [if_pos e]
    unfold putT
    rw [if_pos (by rw [List.any_cons, decide_eq_true (show kyI (nI d.1) = kyI (nI N) by rw [e])]; rfl)]
    rw [List.map_cons, if_pos (show kyI (nI d.1) = kyI (nI N) by rw [e])]
    show _ = ((kyI (nI N), poT p) : List Key × T) :: dtN D
    rw [e]
    congr 1
    unfold dtN
    rw [List.map_map]
    refine List.map_congr_left fun y hy => ?_
    show (if kyI (nI y.1) = kyI (nI N) then (kyI (nI y.1), poT p) else (kyI (nI y.1), poT y.2)) = _
    rw [if_neg (fun z => h.1 (by rw [e, ← a7K (a6V z)]; exact List.mem_map.mpr ⟨y, hy, rfl⟩))]
   ·rw [if_neg e]
    show _ = ((kyI (nI d.1), poT d.2) : List Key × T) :: dtN (setD D N p)
    rw [← ih]
    unfold putT
    have e1 : decide (kyI (nI d.1) = kyI (nI N)) = false := decide_eq_false fun z => e (a7K (a6V z))
    rw [List.any_cons, e1, Bool.false_or]
    split
    ·rw [List.map_cons, if_neg (fun z => e (a7K (a6V z)))]
    ·rfl
noncomputable def DOK (m b : Nat) (D : DN) : Prop := (D.map Prod.fst).Nodup ∧ ∀ d ∈ D, d.1 ∈ nsts m ∧ GdE b d.2
theorem b8i (m : Nat) : (nsts m).length ≤ 132 := by
 unfold nsts
 rw [List.length_map]
 unfold codN
 split <;> decide
theorem DOK.len {m b : Nat} {D : DN} (h : DOK m b D) : D.length ≤ 132 := by
 have := List.Nodup.length_le_of_subset h.1 (l₂ := nsts m) fun N hN => by
  obtain ⟨d, hd, rfl⟩ := List.mem_map.mp hN
  exact (h.2 d hd).1
 rw [List.length_map] at this
 exact Nat.le_trans this (b8i m)
theorem a9N {m b : Nat} {D : DN} (h : ∀ d ∈ D, d.1 ∈ nsts m ∧ GdE b d.2) (N : Nst) : GdE b (lkD D N) := by
 induction D with
 | nil => exact GdE.nil b
 | cons d D ih =>
   show GdE b (if d.1 = N then d.2 else lkD D N)
   split
   ·exact (h d (.head _)).2
   ·exact ih fun x hx => h x (.tail _ hx)
theorem a9s {N : Nst} {p : Po} : ∀ {D : DN} {d : Nst × Po}, d ∈ setD D N p → d = (N, p) ∨ d ∈ D
 | [], d, h => .inl (List.mem_singleton.mp h)
 | e :: D, d, h => by
   have h : d ∈ (if e.1 = N then (N, p) :: D else e :: setD D N p) := h
   split at h
   ·rcases List.mem_cons.mp h with z | z
    ·exact .inl z
    ·exact .inr (.tail _ z)
   ·rcases List.mem_cons.mp h with z | z
    ·exact .inr (by rw [z]; exact .head _)
    ·rcases a9s z with y | y
     ·exact .inl y
     ·exact .inr (.tail _ y)
noncomputable def addD (D : DN) (N : Nst) (p : Po) : DN := setD D N (addP (lkD D N) p)
theorem DOK.add {m b : Nat} {D : DN} {N : Nst} {p : Po} (h : DOK m b D) (hN : N ∈ nsts m) (hp : GdE b p) : DOK m b (addD D N p) := by
 refine ⟨?_, fun d hd => ?_⟩
 ·unfold addD
  rw [a7s]
  split
  ·exact h.1
  ·rename_i g
   rw [List.nodup_append]
   exact ⟨h.1, List.pairwise_singleton _ _, fun a ha b hb => by rw [List.mem_singleton.mp hb]; exact fun z => g (z ▸ ha)⟩
 ·rcases a9s hd with z | z
  ·rw [z]; exact ⟨hN, (a9N h.2 N).add hp⟩
  ·exact h.2 d z
noncomputable def VD (f : NF) : DN → Lp
 | [] => 0
 | d :: D => toL d.2 * f d.1 + VD f D
theorem a8r (f : NF) (N : Nst) (p : Po) : ∀ D : DN, VD f (addD D N p) = VD f D + toL p * f N
 | [] => by
   show toL (addP [] p) * f N + 0 = 0 + toL p * f N
   rw [a6s]
   have : toL [] = 0 := b5i
   rw [this]; grind
 | d :: D => by
   have ih := a8r f N p D
   unfold addD at ih ⊢
   show VD f (if d.1 = N then (N, addP (if d.1 = N then d.2 else lkD D N) p) :: D else d :: setD D N (addP (if d.1 = N then d.2 else lkD D N) p)) = toL d.2 * f d.1 + VD f D + toL p * f N
   by_cases e : d.1 = N
   ·rw [if_pos e, if_pos e]
    show toL (addP d.2 p) * f N + VD f D = _
    rw [a6s, e]; grind
   ·rw [if_neg e, if_neg e]
    show toL d.2 * f d.1 + VD f (setD D N (addP (lkD D N) p)) = _
    rw [ih]; grind
noncomputable def wl1N (l : Int) (E : DN) (d : Nst × Po) : DN :=
 let E1 := addD E d.1 (a0Z d.2 [(sgI l, 1)])
 let q := a0Z d.2 [(-sgI l, 1)]
 if mlN d.1 l.natAbs then addD E1 d.1 (a0Z q lpP) else addD E1 (hkN d.1 l.natAbs) q
noncomputable def wlN (l : Int) (D : DN) : DN := D.foldl (wl1N l) []
theorem a3Y (k : Int) : toL [(k, 1)] = xL k := rfl
theorem b8X (f : NF) (l : Int) (E : DN) (d : Nst × Po) : VD f (wl1N l E d) = VD f E + toL d.2 * tF l f d.1 := by
 unfold wl1N tF uF
 dsimp only
 by_cases h : mlN d.1 l.natAbs = true
 ·rw [if_pos h, if_pos h, a8r, a8r, a2t, a2t, a2t, a3Y, a3Y, show toL lpP = dlt from rfl]; grind
 ·rw [if_neg h, if_neg h, a8r, a8r, a2t, a2t, a3Y, a3Y]; grind
theorem b0k (f : NF) (l : Int) : ∀ (D E : DN), VD f (D.foldl (wl1N l) E) = VD f E + VD (tF l f) D
 | [], E => by show VD f E = VD f E + 0; grind
 | d :: D, E => by
   rw [List.foldl_cons, b0k f l D, b8X]
   show _ = VD f E + (toL d.2 * tF l f d.1 + VD (tF l f) D)
   grind
theorem c0q (f : NF) (l : Int) (D : DN) : VD f (wlN l D) = VD (tF l f) D := by
 unfold wlN
 rw [b0k]
 show (0 : Lp) + _ = _
 grind
theorem DOK.wl1 {m b : Nat} (hm : Cm m) {l : Int} (hl : LetN m l) {E : DN} {d : Nst × Po} (h : DOK m (b + 3) E) (hd : d.1 ∈ nsts m ∧ GdE b d.2) : DOK m (b + 3) (wl1N l E d) := by
 have hsg : sgI l = 1 ∨ sgI l = -1 := by unfold sgI; split <;> simp
 have g1 := (hd.2.mul (GdE.mono1 hsg)).up 1 (c := b + 3) (by lia)
 have g2 := hd.2.mul (GdE.mono1 (s := -sgI l) (by lia))
 unfold wl1N
 dsimp only
 by_cases c : mlN d.1 l.natAbs = true
 ·rw [if_pos c]
  exact (h.add hd.1 g1).add hd.1 (g2.mul GdE.lp)
 ·rw [if_neg c]
  exact (h.add hd.1 g1).add ((a5q hm hd.1).2.2 _ hl.1 hl.2 (by simpa using c)).2 (g2.up 1 (by lia))
theorem DOK.foldl {m b : Nat} (hm : Cm m) {l : Int} (hl : LetN m l) : ∀ (D E : DN), DOK m (b + 3) E → (∀ d ∈ D, d.1 ∈ nsts m ∧ GdE b d.2) → DOK m (b + 3) (D.foldl (wl1N l) E)
 | [], E, h, _ => h
 | d :: D, E, h, hD => DOK.foldl hm hl D _ (h.wl1 hm hl (hD d (.head _))) fun x hx => hD x (.tail _ hx)
theorem DOK.nil (m b : Nat) : DOK m b [] := ⟨.nil, fun _ z => absurd z List.not_mem_nil⟩
theorem DOK.wl {m b : Nat} (hm : Cm m) {l : Int} (hl : LetN m l) {D : DN} (h : DOK m b D) : DOK m (b + 3) (wlN l D) := DOK.foldl hm hl D [] (DOK.nil m _) h.2
noncomputable def dcW (m : Nat) (w : List Int) : DN := w.foldl (fun D l => wlN l D) [(plN m, [(0, 1)])]
theorem b0e {m : Nat} (hm : Cm m) {w : List Int} (hw : ∀ l ∈ w, LetN m l) : DOK m (3 * w.length) (dcW m w) := by
 have key : ∀ (w : List Int) (b : Nat) (D : DN), (∀ l ∈ w, LetN m l) → DOK m b D → DOK m (b + 3 * w.length) (w.foldl (fun D l => wlN l D) D) := by
  intro w
  induction w with
  | nil => intro b D _ h; exact h
  | cons l w ih =>
    intro b D hw h
    have := ih (b + 3) (wlN l D) (fun x hx => hw x (.tail _ hx)) (h.wl hm (hw l (.head _)))
    rw [List.length_cons, show b + 3 * (w.length + 1) = b + 3 + 3 * w.length by lia]
    exact this
 have := key w 0 [(plN m, [(0, 1)])] hw ⟨List.pairwise_singleton _ _, fun d hd => by rw [List.mem_singleton.mp hd]; exact ⟨a4L hm, GdE.one⟩⟩
 rw [Nat.zero_add] at this
 exact this
theorem b8Y (f : NF) (m : Nat) (w : List Int) : VD f (dcW m w) = phi w f (plN m) := by
 have key : ∀ (w : List Int) (f : NF) (D : DN), VD f (w.foldl (fun D l => wlN l D) D) = VD (phi w f) D := by
  intro w
  induction w with
  | nil => intro f D; rfl
  | cons l w ih => intro f D; rw [List.foldl_cons, ih, c0q]; rfl
 unfold dcW
 rw [key]
 show toL [(0, 1)] * _ + 0 = _
 rw [a3Y, xL_0]; grind
noncomputable def sumD : DN → Po → Po
 | [], a => a
 | d :: D, a => sumD D (addP a (a0Z d.2 (dP (lpN d.1 - 1))))
theorem b1s : ∀ (D : DN) (a : Po), toL (sumD D a) = toL a + VD trF D
 | [], a => by show toL a = toL a + 0; grind
 | d :: D, a => by
   show toL (sumD D _) = toL a + (toL d.2 * trF d.1 + VD trF D)
   rw [b1s D, a6s, a2t, b4A]
   unfold trF
   grind
theorem b4M (N : Nst) : ∀ (j b : Nat) (s : List Nat), lpS N j b s ≤ j
 | 0, _, _ => Nat.le_refl _
 | j + 1, b, s => by
   have := b4M N j (b + 1) (wkN N (N.length + 1) s b)
   unfold lpS
   split <;> lia
theorem b4N {m : Nat} (hm : Cm m) {N : Nst} (hN : N ∈ nsts m) : lpN N ≤ m := by
 have h := b4M N (N.length / 2) 0 []
 have hl := (a5q hm hN).1
 unfold lpN
 lia
theorem a8S {n : Int} {ws : List Int} (h : WordOK n ws) : ∀ l ∈ ws, LetN n.toNat l := fun l hl => by
 obtain ⟨a, b⟩ := h l hl
 exact ⟨by lia, by lia⟩
section
variable {m : Nat} (hm : Cm m)
include hm
theorem b9f {N : Nst} (hN : N ∈ nsts m) {i j : Nat} (a : 1 ≤ i) (b : i < m) (c : 1 ≤ j) (d : j < m) : upN i (stN j (0, N)) = stN j (upN i (0, N)) := by
 have h := List.all_eq_true.mp (List.all_eq_true.mp (List.all_eq_true.mp (show (nsts m).all _ = true from hm.all b6U) N hN) i (a2S.mpr ⟨a, b⟩)) j (a2S.mpr ⟨c, d⟩)
 unfold ckC at h
 have h2 := a4N (k := fun B => upN i ((stN j (0, N)).1, (stN j (0, N)).2) == stN j ((upN i (0, N)).1, B)) (a4N (k := fun A => fcN (2 * m) (upN i (0, N)).2 fun B => upN i ((stN j (0, N)).1, A) == stN j ((upN i (0, N)).1, B)) h)
 exact beq_iff_eq.mp h2
theorem b6Z {N : Nst} (hN : N ∈ nsts m) {i : Nat} (a : 1 ≤ i) (b : i < m) : (upN i (0, N)).2 ∈ nsts m := by
 have h := List.all_eq_true.mp (List.all_eq_true.mp (show (nsts m).all _ = true from hm.all b6T) N hN) i (a2S.mpr ⟨a, b⟩)
 exact List.contains_iff_mem.mp (a4N (k := fun B => (nsts m).contains B) h)
theorem b9e {N : Nst} (hN : N ∈ nsts m) {i : Nat} (a : 1 ≤ i) (b : i < m) : (upN i (0, N)).1 + lpN (upN i (0, N)).2 = (stN i (0, N)).1 + lpN (stN i (0, N)).2 := by
 have h := List.all_eq_true.mp (show (nsts m).all _ = true from hm.all b3i) N hN
 rw [Bool.and_eq_true] at h
 have h2 := List.all_eq_true.mp h.2 i (a2S.mpr ⟨a, b⟩)
 unfold ckT at h2
 have h3 := a4N (k := fun B => (upN i (0, N)).1 + lpN B == (stN i (0, N)).1 + lpN (stN i (0, N)).2) (a4N (k := fun A => fcN (2 * m) (upN i (0, N)).2 fun B => (upN i (0, N)).1 + lpN B == (stN i (0, N)).1 + lpN A) h2)
 exact beq_iff_eq.mp h3
theorem b9g {i : Nat} (a : 1 ≤ i) (b : i < m) : upN i (0, plN m) = stN i (0, plN m) :=
 beq_iff_eq.mp (List.all_eq_true.mp (show (hks m).all _ = true from hm.all b4s) i (a2S.mpr ⟨a, b⟩))
theorem v_u {N : Nst} (hN : N ∈ nsts m) {i j : Nat} (a : 1 ≤ i) (b : i < m) (c : 1 ≤ j) (d : j < m) (f : NF) : vF i (uF j f) N = uF j (vF i f) N := by
 rw [v_up, FU_u, u_st, FU_v, b9f hm hN a b c d]
theorem s_t {l k : Int} (hl : LetN m l) (hk : LetN m k) (f : NF) : EqF m (sF l (tF k f)) (tF k (sF l f)) := fun N hN => by
 have e := v_u hm hN hl.1 hl.2 hk.1 hk.2 f
 unfold sF tF
 rw [b9d, b0l]
 dsimp only
 rw [e]
 clear hm hN e hl hk
 grind
theorem b7x {l : Int} (hl : LetN m l) : ∀ {w : List Int} (f : NF), (∀ k ∈ w, LetN m k) → EqF m (sF l (phi w f)) (phi w (sF l f))
 | [], f, _ => fun N _ => rfl
 | k :: w, f, hw => fun N hN => (s_t hm hl (hw k (.head _)) (phi w f) N hN).trans (EqF.t hm (b7x hl f fun x hx => hw x (.tail _ hx)) (hw k (.head _)) N hN)
theorem s_tr {l : Int} (hl : LetN m l) : EqF m (sF l trF) (tF l trF) := fun N hN => by
 have e : vF l.natAbs trF N = uF l.natAbs trF N := by
  rw [v_up, u_st, b6W hm (b6Z hm hN hl.1 hl.2), b6W hm (b1v hm hN hl.1 hl.2), b9e hm hN hl.1 hl.2]
 unfold sF tF
 rw [e]
theorem rot1 {l : Int} (hl : LetN m l) {w : List Int} (hw : ∀ k ∈ w, LetN m k) : stS m (l :: w) = stS m (w ++ [l]) := by
 have h1 : tF l (phi w trF) (plN m) = sF l (phi w trF) (plN m) := by
  unfold tF sF
  rw [u_st, v_up, b9g hm hl.1 hl.2]
 unfold stS
 rw [a0L]
 exact h1.trans ((b7x hm hl trF hw _ (a4L hm)).trans (EqF.phi hm hw (s_tr hm hl) _ (a4L hm)))
theorem rotW : ∀ {u v : List Int}, (∀ k ∈ u, LetN m k) → (∀ k ∈ v, LetN m k) → stS m (u ++ v) = stS m (v ++ u)
 | [], v, _, _ => by rw [List.append_nil]; rfl
 | l :: u, v, hu, hv => by
   have h1 := hu l (.head _)
   have h2 : ∀ k ∈ u, LetN m k := fun k hk => hu k (.tail _ hk)
   rw [List.cons_append, rot1 hm h1 (fun k hk => (List.mem_append.mp hk).elim (h2 k) (hv k)), List.append_assoc, rotW h2 (fun k hk => (List.mem_append.mp hk).elim (hv k) fun z => by rw [List.mem_singleton.mp z]; exact h1), List.append_assoc]; rfl
end
noncomputable def Sd (a b : Nat) : Prop := 1 ≤ a ∧ a ≤ 3 ∧ 1 ≤ b ∧ b ≤ 3
section
variable {a b : Nat} (h : Sd a b)
include h
end
noncomputable def natT (l : List Nat) : List T := (nI l).map .int
theorem b4a (l : List Nat) : (natT l).length = l.length := by unfold natT nI; rw [List.length_map, List.length_map]
theorem b3Z (l : List Nat) (i x : Nat) : (natT l).set i (.int (x : Nat)) = natT (l.set i x) := by unfold natT nI; rw [List.map_set, List.map_set]
section
variable {X : Cx}
end
noncomputable def ddN (acc : List Nat) (x : Nat) : List Nat := if acc.contains x then acc else acc ++ [x]
noncomputable def dd (l : List Nat) : Nat := (l.foldl ddN []).length
section
variable {X : Cx} {Ha : Hp} {o i e : Expr} {es : List Expr} {tc : TE3} {t : TA3} {p2 pos : Pos}
end
theorem b7z {n : Int} (h1 : 1 ≤ n) (h6 : n ≤ 6) {u v : List Int} (hu : WordOK n u) (hv : WordOK n v) : stS n.toNat (u ++ v) = stS n.toNat (v ++ u) := rotW ⟨by lia, by lia⟩ (a8S hu) (a8S hv)
theorem b9v : stS 1 [] = 1 := by
 show powL dlt (lpN (plN 1) - 1) = 1
 rw [show lpN (plN 1) = 1 by decide +kernel]; rfl
noncomputable def mnL (t : Int) : Lp := toL [(-3 * t, if t % 2 = 0 then 1 else -1)]
theorem a7m (x : Int × Int) (q : Po) : toL (x :: q) = toL [x] + toL q := Lp.ext2 fun c => by
 rw [a1p, co_L, co_L, co_L]; exact a1b [x] q c
noncomputable def seL (n : Int) (w : List Int) : Lp := stS n.toNat w * mnL (w.map sgI).sum
noncomputable def ckMf (m : Nat) : Bool := (nsts m).all fun N => fcN (2 * m + 2) (mrN N) fun R => (nsts (m + 1)).contains R && lpN R == lpN N + 1 && (stN m (0, R)).1 == 0 && (fcN (2 * m + 2) (stN m (0, R)).2 fun S => lpN S == lpN N) && (hks m).all fun i => fcN (2 * m) (stN i (0, N)).2 fun A => stN i (0, R) == ((stN i (0, N)).1, mrN A)
theorem b8R : (ckMf 1 && ckMf 2 && ckMf 3 && ckMf 4) = true := by decide +kernel
theorem b8Q : ckMf 5 = true := by decide +kernel
theorem b8P : ((mrN (plN 1) == plN 2) && (mrN (plN 2) == plN 3) && (mrN (plN 3) == plN 4) && (mrN (plN 4) == plN 5) && (mrN (plN 5) == plN 6)) = true := by decide +kernel
theorem a7g {m : Nat} (h1 : 1 ≤ m) (h5 : m ≤ 5) : ckMf m = true ∧ mrN (plN m) = plN (m + 1) := by
 have a := b8R
 have b := b8Q
 have c := b8P
 simp only [Bool.and_eq_true, beq_iff_eq] at a c
 have hm : m = 1 ∨ m = 2 ∨ m = 3 ∨ m = 4 ∨ m = 5 := by lia
 rcases hm with rfl | rfl | rfl | rfl | rfl
 ·exact ⟨a.1.1.1, c.1.1.1.1⟩
 ·exact ⟨a.1.1.2, c.1.1.1.2⟩
 ·exact ⟨a.1.2, c.1.1.2⟩
 ·exact ⟨a.2, c.1.2⟩
 ·exact ⟨b, c.2⟩
section
variable {m : Nat} (h1 : 1 ≤ m) (h5 : m ≤ 5)
include h1 h5
theorem b2i {N : Nst} (hN : N ∈ nsts m) : mrN N ∈ nsts (m + 1) ∧ lpN (mrN N) = lpN N + 1 ∧ (stN m (0, mrN N)).1 = 0 ∧ lpN (stN m (0, mrN N)).2 = lpN N ∧ ∀ i, 1 ≤ i → i < m → stN i (0, mrN N) = ((stN i (0, N)).1, mrN (stN i (0, N)).2) := by
 have h := a4N (k := fun R => (nsts (m + 1)).contains R && lpN R == lpN N + 1 && (stN m (0, R)).1 == 0 && (fcN (2 * m + 2) (stN m (0, R)).2 fun S => lpN S == lpN N) && (hks m).all fun i => fcN (2 * m) (stN i (0, N)).2 fun A => stN i (0, R) == ((stN i (0, N)).1, mrN A)) (List.all_eq_true.mp (show (nsts m).all _ = true from (a7g h1 h5).1) N hN)
 simp only [Bool.and_eq_true, beq_iff_eq] at h
 obtain ⟨⟨⟨⟨a, b⟩, c⟩, d⟩, e⟩ := h
 refine ⟨List.contains_iff_mem.mp a, b, c, beq_iff_eq.mp (a4N (k := fun S => lpN S == lpN N) d), fun i x y => ?_⟩
 exact beq_iff_eq.mp (a4N (k := fun A => stN i (0, mrN N) == ((stN i (0, N)).1, mrN A)) (List.all_eq_true.mp e i (a2S.mpr ⟨x, y⟩)))
theorem b2h : ∀ (w : List Int) (f : NF), (∀ l ∈ w, LetN m l) → ∀ N ∈ nsts m, phi w f (mrN N) = phi w (fun N => f (mrN N)) N
 | [], f, _, N, _ => rfl
 | l :: w, f, hw, N, hN => by
   have hl := hw l (.head _)
   have ih := b2h w f fun x hx => hw x (.tail _ hx)
   obtain ⟨_, _, _, _, e⟩ := b2i h1 h5 hN
   have hN2 := b1v (m := m) ⟨h1, by lia⟩ hN (k := 0) hl.1 hl.2
   show tF l (phi w f) (mrN N) = tF l (phi w fun N => f (mrN N)) N
   unfold tF
   rw [u_st, u_st, e _ hl.1 hl.2, ih N hN]
   unfold FU
   rw [ih _ hN2]
theorem b3t {w : List Int} (hw : ∀ l ∈ w, LetN m l) : stS (m + 1) w = dlt * stS m w := by
 have cm : Cm m := ⟨h1, by lia⟩
 unfold stS
 rw [← (a7g h1 h5).2, b2h h1 h5 w trF hw _ (a4L cm)]
 have e : EqF m (fun N => trF (mrN N)) (fun N => dlt * trF N) := fun N hN => by
  have p := a7L cm hN
  dsimp only
  unfold trF
  rw [(b2i h1 h5 hN).2.1, show lpN N + 1 - 1 = 1 + (lpN N - 1) by lia, a4X, a9w]
 rw [EqF.phi cm hw e _ (a4L cm), a8J]
theorem b3u {w : List Int} {s : Int} (hs : s = 1 ∨ s = -1) (hw : ∀ l ∈ w, LetN m l) : stS (m + 1) (w ++ [s * m]) = -(xL (3 * s)) * stS m w := by
 have cm : Cm m := ⟨h1, by lia⟩
 have cc : Cm (m + 1) := ⟨by lia, by lia⟩
 have hsg : sgI (s * m) = s ∧ (s * (m : Int)).natAbs = m := by
  unfold sgI
  rcases hs with rfl | rfl <;> split <;> lia
 unfold stS
 rw [a0L, ← (a7g h1 h5).2, b2h h1 h5 w _ hw _ (a4L cm)]
 show phi w (fun N => tF (s * m) trF (mrN N)) (plN m) = _
 have e : EqF m (fun N => tF (s * m) trF (mrN N)) (fun N => -(xL (3 * s)) * trF N) := fun N hN => by
  obtain ⟨hmr, e, e3, e4, _⟩ := b2i h1 h5 hN
  have p1 := a7L cm hN
  dsimp only
  have hst := b1v cc hmr (k := 0) (i := m) h1 (by lia)
  have eu : uF m trF (mrN N) = powL dlt (lpN N - 1) := by
   rw [u_st, b6W cc hst, e3, e4, Nat.zero_add]
  unfold tF
  rw [hsg.1, hsg.2, eu]
  unfold trF
  rw [e, show lpN N + 1 - 1 = 1 + (lpN N - 1) by lia, a4X, a9w]
  have h1 : xL s * xL (-s) = 1 := by rw [← a4H, show s + -s = 0 by lia, xL_0]
  have h2 : dlt = -(xL s * xL s) - xL (-s) * xL (-s) := by
   rw [b2N, ← a4H, ← a4H]
   rcases hs with rfl | rfl
   ·rfl
   ·show -(xL 2) - xL (-2) = -(xL (-2)) - xL 2; grind
  have h3 : xL (3 * s) = xL s * xL s * xL s := by rw [← a4H, ← a4H]; congr 1; lia
  rw [h3, h2]
  generalize xL s = x at *
  generalize xL (-s) = y at *
  generalize powL _ (lpN N - 1) = p
  clear h2 h3 eu e e3 e4 hst hmr hN
  grind
 rw [EqF.phi cm hw e _ (a4L cm), a8J]
end
noncomputable def P6 (o : List Int) : Bool := (List.range 6).all fun l => decide (l = 0) || decide ((pcs (cjO 6 l o) 6).length = (pcs o 6).length)
noncomputable def D6 : Nat → List (List Int)
 | 0 => a4k (a0h 6)
 | k + 1 => (D6 k).drop 120
theorem a4F {α : Type} {P : α → Bool} (n : Nat) {L : List α} (a : (L.take n).all P = true) (b : (L.drop n).all P = true) : L.all P = true := by
 rw [← List.take_append_drop n L, List.all_append, a, b]; rfl
theorem c0m : ((D6 0).take 120).all P6 = true := by decide +kernel
theorem c0l : ((D6 1).take 120).all P6 = true := by decide +kernel
theorem c0k : ((D6 2).take 120).all P6 = true := by decide +kernel
theorem c0j : ((D6 3).take 120).all P6 = true := by decide +kernel
theorem c0i : ((D6 4).take 120).all P6 = true := by decide +kernel
theorem c0h : ((D6 5).take 120).all P6 = true := by decide +kernel
theorem c0g : (D6 6).all P6 = true := by decide +kernel
theorem cj_6 : cjB 6 = true := a4F (L := D6 0) 120 c0m (a4F (L := D6 1) 120 c0l (a4F (L := D6 2) 120 c0k (a4F (L := D6 3) 120 c0j (a4F (L := D6 4) 120 c0i (a4F (L := D6 5) 120 c0h c0g)))))
noncomputable def mrB (n : Nat) : Bool := (a4k (a0h n)).all fun o => decide ((pcs (o ++ [(n : Int)]) (n + 1)).length = (pcs o n).length + 1) && decide ((pcs ((o ++ [(n : Int)]).map (sw n)) (n + 1)).length = (pcs o n).length)
theorem b6l : mrB 1 = true ∧ mrB 2 = true ∧ mrB 3 = true ∧ mrB 4 = true ∧ mrB 5 = true := by decide +kernel
inductive RS (n : Int) : List Int → List Int → Prop where
 | rel {w v : List Int} : RelW n w v → RS n w v
 | sgn {l : Int} : LetOK n l → RS n [l] [-l]
 | ctx {w v : List Int} (a b : List Int) : WordOK n a → WordOK n b → RS n w v → RS n (a ++ w ++ b) (a ++ v ++ b)
 | symm {w v : List Int} : RS n w v → RS n v w
 | trans {w v x : List Int} : RS n w v → RS n v x → RS n w x
theorem _root_.LM.LetOK.up {n m l : Int} (h : n ≤ m) (a : LetOK n l) : LetOK m l := by unfold LetOK at *; lia
theorem _root_.LM.WordOK.up {n m : Int} (h : n ≤ m) {w : List Int} (a : WordOK n w) : WordOK m w := fun l hl => LetOK.up h (a l hl)
theorem RS.up {n m : Int} (h : n ≤ m) {w v : List Int} (r : RS n w v) : RS m w v := by
 induction r with
 | rel r => exact .rel (r.mono h)
 | sgn a => exact .sgn (a.up h)
 | ctx a b ha hb _ ih => exact .ctx a b (ha.up h) (hb.up h) ih
 | symm _ ih => exact ih.symm
 | trans _ _ i j => exact i.trans j
theorem RS.lf {n : Int} {a w v : List Int} (ha : WordOK n a) (h : RS n w v) : RS n (a ++ w) (a ++ v) := by
 have := RS.ctx a [] ha .nil h
 rwa [List.append_nil, List.append_nil] at this
theorem RS.rt {n : Int} {b w v : List Int} (hb : WordOK n b) (h : RS n w v) : RS n (w ++ b) (v ++ b) := RS.ctx [] b .nil hb h
theorem RS.refl {n : Int} (w : List Int) : RS n w w := .rel (.refl w)
theorem RS.two {n l : Int} (h : LetOK n l) : RS n [l, l] [] :=
 (RS.lf (a := [l]) (fun x hx => by rw [List.mem_singleton.mp hx]; exact h) (RS.sgn h)).trans (.rel (.out h))
theorem RS.pass {n t : Int} (ht : LetOK n t) : ∀ {a : List Int}, (∀ x ∈ a, LetOK n x ∧ x.natAbs + 1 < t.natAbs) → RS n ([t] ++ a) (a ++ [t])
 | [], _ => RS.refl _
 | x :: a, h => by
   obtain ⟨h1, h2⟩ := h x (.head _)
   have h3 : WordOK n a := fun y hy => (h y (.tail _ hy)).1
   have ih := RS.pass ht (a := a) fun y hy => h y (.tail _ hy)
   have e1 : RS n ([t, x] ++ a) ([x, t] ++ a) := RS.rt h3 (.rel (.far ht h1 (.inr h2)))
   have e2 : RS n ([x] ++ ([t] ++ a)) ([x] ++ (a ++ [t])) := RS.lf (fun y hy => by rw [List.mem_singleton.mp hy]; exact h1) ih
   exact e1.trans e2
theorem RS.w {n : Int} {w v : List Int} (r : RS n w v) : WordOK n w ↔ WordOK n v := by
 induction r with
 | rel r => exact r.ok
 | sgn a => exact ⟨fun _ x hx => by rw [List.mem_singleton.mp hx]; exact a.neg, fun _ x hx => by rw [List.mem_singleton.mp hx]; exact a⟩
 | ctx a b ha hb _ ih => exact ⟨fun h => (ha.append (ih.mp h.appl.appr)).append hb, fun h => (ha.append (ih.mpr h.appl.appr)).append hb⟩
 | symm _ ih => exact ih.symm
 | trans _ _ a b => exact a.trans b
noncomputable def Top (k : Int) (w : List Int) : Prop := (∃ v, WordOK k v ∧ RS (k + 1) w v) ∨ ∃ u v, WordOK k u ∧ WordOK k v ∧ RS (k + 1) w (u ++ [k] ++ v)
theorem a1o {n l : Int} (h : LetOK n l) : WordOK n [l] := fun x hx => by rw [List.mem_singleton.mp hx]; exact h
theorem b4L {n : Int} : WordOK n [] := fun _ z => absurd z List.not_mem_nil
theorem a6r : ∀ (j : Nat) {k : Int}, k = j + 1 → ∀ {w : List Int}, WordOK (k + 1) w → Top k w
 | j, k, ek, [], _ => .inl ⟨[], b4L, RS.refl _⟩
 | j, k, ek, l :: w, hw => by
   have hl := hw l (.head _)
   have hw2 : WordOK (k + 1) w := fun x hx => hw x (.tail _ hx)
   have ktop : LetOK (k + 1) k := by unfold LetOK; lia
   have ih := a6r j ek hw2
   by_cases c : (l.natAbs : Int) = k
   ·have r0 : RS (k + 1) [l] [k] := by
     by_cases d : 0 < l
     ·rw [show l = k by lia]; exact RS.refl _
     ·rw [show l = -k by lia]; exact (RS.sgn ktop).symm
    have r1 : RS (k + 1) (l :: w) ([k] ++ w) := RS.rt hw2 r0
    rcases ih with ⟨v, hv, r⟩ | ⟨u, v, hu, hv, r⟩
    ·exact .inr ⟨[], v, b4L, hv, r1.trans (RS.lf (a1o ktop) r)⟩
    ·have r2 := r1.trans (RS.lf (a1o ktop) r)
     match j, ek with
     | 0, ek =>
       have hu0 : u = [] := by
        cases u with
        | nil => rfl
        | cons x u => have := hu x (.head _); unfold LetOK at this; lia
       subst hu0
       refine .inl ⟨v, hv, r2.trans ?_⟩
       exact RS.rt (hv.up (by lia)) (RS.two ktop)
     | j + 1, ek =>
       have ek1 : k - 1 = (j : Int) + 1 := by lia
       have hu1 : WordOK (k - 1 + 1) u := by rw [show k - 1 + 1 = k by lia]; exact hu
       have far : ∀ a : List Int, WordOK (k - 1) a → ∀ x ∈ a, LetOK (k + 1) x ∧ x.natAbs + 1 < k.natAbs := fun a ha x hx => by
        have := ha x hx; unfold LetOK at *; lia
       have hv1 : WordOK (k + 1) v := hv.up (by lia)
       rcases a6r j ek1 hu1 with ⟨a, ha, ra⟩ | ⟨a, b, ha, hb, ra⟩
       ·rw [show k - 1 + 1 = k by lia] at ra
        have ra1 := ra.up (show k ≤ k + 1 by lia)
        have s1 : RS (k + 1) ([k] ++ (u ++ [k] ++ v)) ([k] ++ (a ++ [k] ++ v)) := RS.lf (a1o ktop) (RS.rt hv1 (RS.rt (a1o ktop) ra1))
        have s2 : RS (k + 1) ([k] ++ (a ++ [k] ++ v)) (a ++ v) := by
         have p := RS.rt (b := [k] ++ v) ((a1o ktop).append hv1) (RS.pass ktop (far a ha))
         have q := RS.lf (a := a) (ha.up (by lia)) (RS.rt hv1 (RS.two ktop))
         simp only [List.append_assoc, List.nil_append, List.cons_append] at p q ⊢
         exact p.trans q
        exact .inl ⟨a ++ v, (ha.up (by lia)).append hv, r2.trans (s1.trans s2)⟩
       ·rw [show k - 1 + 1 = k by lia] at ra
        have ra1 := ra.up (show k ≤ k + 1 by lia)
        have t1 : LetOK (k + 1) (k - 1) := by unfold LetOK; lia
        have tk : LetOK k (k - 1) := by unfold LetOK; lia
        have s1 : RS (k + 1) ([k] ++ (u ++ [k] ++ v)) ([k] ++ (a ++ [k - 1] ++ b ++ [k] ++ v)) := RS.lf (a1o ktop) (RS.rt hv1 (RS.rt (a1o ktop) ra1))
        have ha1 : WordOK (k + 1) a := ha.up (by lia)
        have hb1 : WordOK (k + 1) b := hb.up (by lia)
        have p := RS.rt (b := [k - 1] ++ (b ++ ([k] ++ v))) ((a1o t1).append (hb1.append ((a1o ktop).append hv1))) (RS.pass ktop (far a ha))
        have q := RS.lf (a := a ++ [k] ++ [k - 1]) ((ha1.append (a1o ktop)).append (a1o t1)) (RS.rt hv1 (RS.pass ktop (far b hb)).symm)
        have th : RS (k + 1) [k, k - 1, k] [k - 1, k, k - 1] := .rel (.three ktop t1 (Int.mul_pos (by lia) (by lia)) (by lia))
        have r := RS.lf (a := a) ha1 (RS.rt (b := b ++ v) (hb1.append hv1) th)
        refine .inr ⟨a ++ [k - 1], [k - 1] ++ b ++ v, (ha.up (by lia)).append (a1o tk), ((a1o tk).append (hb.up (by lia))).append hv, r2.trans (s1.trans ?_)⟩
        simp only [List.append_assoc, List.nil_append, List.cons_append] at p q r ⊢
        exact (p.trans q).trans r
   ·have lk : LetOK k l := by unfold LetOK at *; lia
    have ek2 : RS (k + 1) (l :: w) ([l] ++ w) := RS.refl _
    rcases ih with ⟨v, hv, r⟩ | ⟨u, v, hu, hv, r⟩
    ·exact .inl ⟨[l] ++ v, (a1o lk).append hv, RS.lf (a1o hl) r⟩
    ·refine .inr ⟨[l] ++ u, v, (a1o lk).append hu, hv, ?_⟩
     have := RS.lf (a1o hl) r
     simp only [List.append_assoc, List.nil_append, List.cons_append] at this ⊢
     exact this
theorem e1_x (k : Int) : evL g1 (xL k) = 1 := by
 unfold xL; rw [a6j]; rfl
theorem b8L : evL g1 dlt = -2 := by
 unfold dlt; rw [a6j]; rfl
noncomputable def sgP (k : Int) : Int := if k % 2 = 0 then 1 else -1
theorem c0c (t : Int) : evL g1 (mnL t) = sgP t := by
 unfold mnL sgP; rw [a6j]
 show (if t % 2 = 0 then (1 : Int) else -1) * 1 + 0 = _
 rw [Int.mul_one, Int.add_zero]
noncomputable def AE (m : Nat) (F G : NF) : Prop := ∀ N ∈ nsts m, evL g1 (F N) = evL g1 (G N)
section
variable {m : Nat} (hm : Cm m)
include hm
theorem AE.u {F G : NF} (h : AE m F G) {i : Nat} (a : 1 ≤ i) (b : i < m) : AE m (uF i F) (uF i G) := fun N hN => by
 unfold uF
 by_cases c : mlN N i = true
 ·rw [if_pos c, if_pos c, a2s mg1, a2s mg1, h N hN]
 ·rw [if_neg c, if_neg c, h _ ((a5q hm hN).2.2 i a b (by simpa using c)).2]
theorem AE.t {F G : NF} (h : AE m F G) {l : Int} (hl : LetN m l) : AE m (tF l F) (tF l G) := fun N hN => by
 unfold tF
 rw [a9V, a2s mg1, a2s mg1, a9V, a2s mg1, a2s mg1, h N hN, AE.u hm h hl.1 hl.2 N hN]
theorem AE.phi : ∀ {w : List Int} {F G : NF}, (∀ l ∈ w, LetN m l) → AE m F G → AE m (phi w F) (phi w G)
 | [], F, G, _, h => h
 | l :: w, F, G, hw, h => AE.t hm (AE.phi (fun x hx => hw x (.tail _ hx)) h) (hw l (.head _))
theorem AE.sgn (l : Int) (F : NF) : AE m (tF l F) (tF (-l) F) := fun N hN => by
 unfold tF
 rw [a9V, a2s mg1, a2s mg1, a9V, a2s mg1, a2s mg1, e1_x, e1_x, e1_x, e1_x, Int.natAbs_neg]
theorem RS.ae {n : Int} (hn : n = m) {w v : List Int} (r : RS n w v) : ∀ f, AE m (L2.phi w f) (L2.phi v f) := by
 have lt : ∀ {l : Int}, LetOK n l → LetN m l := fun {l} h => by unfold LetOK at h; unfold LetN; lia
 induction r with
 | rel r => exact fun f N hN => congrArg _ (b5Y hm hn r f N hN)
 | sgn a => exact fun f => AE.sgn hm _ f
 | ctx a b ha hb _ ih => intro f; rw [a0L, a0L, a0L, a0L]; exact AE.phi hm (fun l hl => lt (ha l hl)) (ih _)
 | symm _ ih => exact fun f N hN => (ih f N hN).symm
 | trans _ _ i j => exact fun f N hN => (i f N hN).trans (j f N hN)
end
theorem RS.fo {n : Int} {w v : List Int} (r : RS n w v) : ∀ p, folL w p = folL v p := by
 induction r with
 | rel r => exact b4m r
 | sgn a =>
   rename_i l
   intro p
   show a0g p l = a0g p (-l)
   unfold a0g
   rw [Int.natAbs_neg]
 | ctx a b _ _ _ ih => intro p; rw [L2.folL_append, L2.folL_append, L2.folL_append, L2.folL_append, ih]
 | symm _ ih => exact fun p => (ih p).symm
 | trans _ _ i j => exact fun p => (i p).trans (j p)
theorem b5B {n : Int} {w v : List Int} (r : RelW n w v) : w.length % 2 = v.length % 2 := by
 induction r with
 | refl => rfl
 | symm _ ih => exact ih.symm
 | trans _ _ i j => exact i.trans j
 | ctx a b _ _ _ ih => simp only [List.length_append]; lia
 | far => rfl
 | three => rfl
 | out => simp
theorem RS.par {n : Int} {w v : List Int} (r : RS n w v) : w.length % 2 = v.length % 2 := by
 induction r with
 | rel r => exact b5B r
 | sgn => rfl
 | ctx a b _ _ _ ih => simp only [List.length_append]; lia
 | symm _ ih => exact ih.symm
 | trans _ _ i j => exact i.trans j
noncomputable def Zt (n : Int) (w : List Int) : Prop := evL g1 (stS n.toNat w) = sgP w.length * (-2) ^ ((pcs (a0o n w) n).length - 1)
theorem Zt.rs {n : Int} {w v : List Int} (h1 : 1 ≤ n) (h6 : n ≤ 6) (hw : WordOK n w) (r : RS n w v) (h : Zt n v) : Zt n w := by
 have cm : Cm n.toNat := ⟨by lia, by lia⟩
 have e := RS.ae cm (by lia) r trF _ (a4L cm)
 have eo : a0o n w = a0o n v := by
  rw [a0z n w hw, a0z n v (r.w.mp hw)]
  exact List.map_congr_left fun p _ => r.fo p
 have ep : sgP w.length = sgP v.length := by
  have := r.par
  unfold sgP
  split <;> split <;> lia
 unfold Zt at h ⊢
 rw [eo, ep, ← h]
 exact e
theorem b8S {o : List Int} {n : Int} {l : Nat} (n1 : 1 ≤ n) (n6 : n ≤ 6) (h : IsP n o) (h1 : 1 ≤ l) (h2 : (l : Int) < n) : (pcs (cjO n l o) n).length = (pcs o n).length := by
 by_cases c : n ≤ 5
 ·exact c0f n1 c h h1 h2
 ·obtain rfl : n = 6 := by lia
  have k2 := List.all_eq_true.mp (List.all_eq_true.mp (show (a4k (a0h 6)).all _ = true from cj_6) o (a1t h)) l (List.mem_range.mpr (by lia))
  rcases (Bool.or_eq_true _ _).mp k2 with z | z
  ·exact absurd (of_decide_eq_true z) (by lia)
  ·exact of_decide_eq_true z
theorem a4v {n : Int} (n1 : 1 ≤ n) (n6 : n ≤ 6) : ∀ (w v : List Int), WordOK n (w ++ v) → (pcs (a0o n (w ++ v)) n).length = (pcs (a0o n (v ++ w)) n).length
 | [], v, _ => by rw [List.append_nil]; rfl
 | l :: w, v, hw => by
   obtain ⟨z1, z2⟩ := hw l (.head _)
   have hw2 : WordOK n (w ++ (v ++ [l])) := fun x hx => hw x (by
    rw [← List.append_assoc] at hx
    rcases List.mem_append.mp hx with z | z
    ·exact .tail _ z
    ·rw [List.mem_singleton.mp z]; exact .head _)
   have ih := a4v n1 n6 w (v ++ [l]) hw2
   have e := b1Q (n := n) (l := l) (w := w ++ v) hw
   rw [List.append_assoc] at e
   rw [List.append_assoc] at ih
   rw [show v ++ l :: w = v ++ ([l] ++ w) from rfl, ← ih, e]
   exact (b8S n1 n6 (a9D hw) (by lia) (by lia)).symm
theorem Zt.rot {n : Int} (h1 : 1 ≤ n) (h6 : n ≤ 6) {w v : List Int} (hw : WordOK n w) (hv : WordOK n v) (h : Zt n (v ++ w)) : Zt n (w ++ v) := by
 unfold Zt at h ⊢
 rw [b7z h1 h6 hw hv, a4v h1 h6 w v (hw.append hv), h, List.length_append, List.length_append, Nat.add_comm]
theorem b2F {n : Int} : ∀ {w : List Int}, WordOK n w → folL w n = n
 | [], _ => rfl
 | l :: w, h => by
   have hl := h l (.head _)
   have e : a0g n l = n := by unfold LetOK at hl; unfold a0g; rw [if_neg (by lia), if_neg (by lia)]
   show folL w (a0g n l) = n
   rw [e]; exact b2F fun x hx => h x (.tail _ hx)
theorem b5y {n : Int} (h : 0 ≤ n) : a0h (n + 1) = a0h n ++ [n] := by
 unfold a0h
 rw [show (n + 1).toNat = n.toNat + 1 by lia, List.range_succ, List.map_append]
 congr 1
 show [((n.toNat : Nat) : Int)] = [n]
 rw [show ((n.toNat : Nat) : Int) = n by lia]
theorem a9C {n : Int} (h1 : 1 ≤ n) {w : List Int} (hw : WordOK n w) : a0o (n + 1) w = a0o n w ++ [n] := by
 rw [a0z _ w (hw.up (by lia)), a0z n w hw, b5y (by lia), List.map_append]
 show _ ++ [folL w n] = _
 rw [b2F hw]
theorem b3S {n : Int} (h1 : 1 ≤ n) {w : List Int} (hw : WordOK n w) : a0o (n + 1) (w ++ [n]) = (a0o n w ++ [n]).map (sw n) := by
 have hn : LetOK (n + 1) n := by unfold LetOK; lia
 have hw1 : WordOK (n + 1) w := hw.up (by lia)
 rw [← a9C h1 hw, a0z _ _ (hw1.append (a1o hn)), a0z _ w hw1, List.map_map]
 refine List.map_congr_left fun p _ => ?_
 rw [L2.folL_append]
 show a0g (folL w p) n = sw n (folL w p)
 rw [a4B _ _ (by lia), show ((n.natAbs : Nat) : Int) = n by lia]
theorem b8k {n : Int} (h1 : 1 ≤ n) (h5 : n ≤ 5) {w : List Int} (hw : WordOK n w) : (pcs (a0o (n + 1) w) (n + 1)).length = (pcs (a0o n w) n).length + 1 ∧ (pcs (a0o (n + 1) (w ++ [n])) (n + 1)).length = (pcs (a0o n w) n).length := by
 have key : mrB n.toNat = true := by
  obtain ⟨k1, k2, k3, k4, k5⟩ := b6l
  rcases (show n = 1 ∨ n = 2 ∨ n = 3 ∨ n = 4 ∨ n = 5 by lia) with rfl | rfl | rfl | rfl | rfl
  ·exact k1
  ·exact k2
  ·exact k3
  ·exact k4
  ·exact k5
 have e : ((n.toNat : Nat) : Int) = n := by lia
 unfold mrB at key
 rw [e] at key
 have k2 := List.all_eq_true.mp key _ (a1t (a9D hw))
 rw [Bool.and_eq_true] at k2
 rw [a9C h1 hw, b3S h1 hw]
 exact ⟨of_decide_eq_true k2.1, of_decide_eq_true k2.2⟩
noncomputable def pN (n : Int) (w : List Int) : Nat := (pcs (a0o n w) n).length
noncomputable def ZT (n : Int) (w : List Int) : Prop := 1 ≤ pN n w ∧ Zt n w
theorem ZT.rs {n : Int} {w v : List Int} (h1 : 1 ≤ n) (h6 : n ≤ 6) (hw : WordOK n w) (r : RS n w v) (h : ZT n v) : ZT n w := by
 have eo : a0o n w = a0o n v := by
  rw [a0z n w hw, a0z n v (r.w.mp hw)]
  exact List.map_congr_left fun p _ => r.fo p
 refine ⟨?_, Zt.rs h1 h6 hw r h.2⟩
 unfold pN
 rw [eo]
 exact h.1
theorem ZT.rot {n : Int} (h1 : 1 ≤ n) (h6 : n ≤ 6) {w v : List Int} (hw : WordOK n w) (hv : WordOK n v) (h : ZT n (v ++ w)) : ZT n (w ++ v) := by
 refine ⟨?_, Zt.rot h1 h6 hw hv h.2⟩
 unfold pN
 rw [a4v h1 h6 w v (hw.append hv)]
 exact h.1
theorem ZT.wide {n : Int} (h1 : 1 ≤ n) (h5 : n ≤ 5) {w : List Int} (hw : WordOK n w) (h : ZT n w) : ZT (n + 1) w := by
 obtain ⟨hp, hz⟩ := h
 obtain ⟨m1, _⟩ := b8k h1 h5 hw
 have e := b3t (m := n.toNat) (by lia) (by lia) (a8S hw)
 unfold ZT Zt pN at *
 rw [show (n + 1).toNat = n.toNat + 1 by lia, e, m1, a2s mg1, hz, b8L]
 refine ⟨by lia, ?_⟩
 generalize (pcs (a0o n w) n).length = p at hp ⊢
 obtain ⟨q, rfl⟩ : ∃ q, p = q + 1 := ⟨p - 1, by lia⟩
 rw [show q + 1 + 1 - 1 = q + 1 by lia, show q + 1 - 1 = q by lia, Int.pow_succ]
 generalize ((-2 : Int)) ^ q = x
 grind
theorem ZT.more {n : Int} (h1 : 1 ≤ n) (h5 : n ≤ 5) {w : List Int} (hw : WordOK n w) (h : ZT n w) : ZT (n + 1) (w ++ [n]) := by
 obtain ⟨hp, hz⟩ := h
 obtain ⟨_, m2⟩ := b8k h1 h5 hw
 have e := b3u (m := n.toNat) (s := 1) (by lia) (by lia) (.inl rfl) (a8S hw)
 rw [show ((n.toNat : Nat) : Int) = n by lia, Int.one_mul] at e
 unfold ZT Zt pN at *
 rw [show (n + 1).toNat = n.toNat + 1 by lia, e, m2, a2s mg1, b8K mg1, e1_x, hz]
 refine ⟨hp, ?_⟩
 have es : sgP ((w ++ [n]).length : Nat) = -(sgP (w.length : Nat)) := by
  rw [List.length_append, List.length_singleton]
  unfold sgP
  split <;> split <;> lia
 rw [es]
 generalize ((-2 : Int)) ^ _ = x
 grind
theorem b3j : ∀ (j : Nat) {n : Int}, n = j + 1 → n ≤ 6 → ∀ {w : List Int}, WordOK n w → ZT n w
 | 0, n, e, h6, w, hw => by
   obtain rfl : n = 1 := by lia
   have : w = [] := by
    cases w with
    | nil => rfl
    | cons x w => have := hw x (.head _); unfold LetOK at this; lia
   subst this
   refine ⟨by unfold pN; decide, ?_⟩
   unfold Zt
   rw [show (1 : Int).toNat = 1 from rfl, b9v, b8J mg1]
   decide
 | j + 1, n, e, h6, w, hw => by
   obtain ⟨k, rfl⟩ : ∃ k : Int, n = k + 1 := ⟨n - 1, by lia⟩
   have ek : k = (j : Int) + 1 := by lia
   have ktop : LetOK (k + 1) k := by unfold LetOK; lia
   rcases a6r j ek hw with ⟨v, hv, r⟩ | ⟨u, v, hu, hv, r⟩
   ·exact ZT.rs (by lia) h6 hw r (ZT.wide (by lia) (by lia) hv (b3j j ek (by lia) hv))
   ·have a := ZT.more (by lia) (by lia) (hv.append hu) (b3j j ek (by lia) (hv.append hu))
    have b : ZT (k + 1) ((u ++ [k]) ++ v) := ZT.rot (by lia) h6 ((hu.up (by lia)).append (a1o ktop)) (hv.up (by lia)) (by rw [← List.append_assoc]; exact a)
    exact ZT.rs (by lia) h6 hw r b
theorem b4S : ∀ p : Po, evP g1 p = (p.map Prod.snd).sum
 | [] => rfl
 | x :: p => by
   show x.2 * 1 + evP g1 p = _
   rw [b4S p, List.map_cons, List.sum_cons, Int.mul_one]
theorem b4J : ∀ w : List Int, sgP ((w.map sgI).sum) = sgP (w.length : Nat)
 | [] => rfl
 | l :: w => by
   have ih := b4J w
   rw [List.map_cons, List.sum_cons, List.length_cons]
   have : sgI l = 1 ∨ sgI l = -1 := by unfold sgI; split <;> simp
   unfold sgP at ih ⊢
   split at ih <;> split at ih <;> split <;> split <;> lia
theorem b3p {n : Int} {w : List Int} (ok : PlOK n w) : ((seL n w).1.map Prod.snd).sum = (-2) ^ ((pcs (a0o n w) n).length - 1) := by
 obtain ⟨h1, h6, _, hw⟩ := ok
 have h := (b3j (n - 1).toNat (n := n) (by lia) h6 hw).2
 rw [← b4S]
 show evL g1 (seL n w) = _
 unfold seL
 unfold Zt at h
 rw [a2s mg1, h, c0c, b4J]
 have : sgP (w.length : Nat) * sgP (w.length : Nat) = 1 := by unfold sgP; split <;> decide
 generalize sgP (w.length : Nat) = s at this ⊢
 generalize ((-2 : Int)) ^ _ = x
 grind
local macro_rules | `(tactic| walk_at "3") => `(tactic| first | exact Or.inl rfl | exact Or.inr (Or.inl rfl) | exact Or.inr (Or.inr rfl))
local macro_rules | `(tactic| walk_at "2") => `(tactic| first | exact Or.inl rfl | exact Or.inr rfl)
local macro_rules | `(tactic| walk_at "4") => `(tactic| first | exact .inl rfl | exact .inr rfl | assumption)
local macro_rules | `(tactic| walk_at "ln") => `(tactic| (intro ts M Q h; first | (split at h <;> first | rfl | exact h.elim) | (obtain ⟨_, _, _, _, _, rfl, _⟩ := h; rfl) | (obtain ⟨_, _, _, _, rfl, _⟩ := h; rfl) | (obtain ⟨_, _, _, rfl, _⟩ := h; rfl) | (obtain ⟨_, _, rfl, _⟩ := h; rfl) | (obtain ⟨_, rfl, _⟩ := h; rfl)))
local macro_rules | `(tactic| walk_at "lnx") => `(tactic| (intro ts M Q E h; first | (split at h <;> first | rfl | exact h.elim) | (obtain ⟨_, _, _, _, _, rfl, _⟩ := h; rfl) | (obtain ⟨_, _, _, _, rfl, _⟩ := h; rfl) | (obtain ⟨_, _, _, rfl, _⟩ := h; rfl) | (obtain ⟨_, _, rfl, _⟩ := h; rfl) | (obtain ⟨_, rfl, _⟩ := h; rfl)))
local macro_rules | `(tactic| walk_at "b0") => `(tactic| exact fun _ _ _ _ _ _ us hl => b9S (P := fun us => bindArgs _ ⟨us, []⟩ = pure (List.zip _ us)) hl rfl)
local macro_rules | `(tactic| walk_at "b1") => `(tactic| exact fun _ _ _ _ _ _ us hl => b8r (P := fun us => bindArgs _ ⟨us, []⟩ = pure (List.zip _ us)) hl (fun _ => rfl))
local macro_rules | `(tactic| walk_at "b2") => `(tactic| exact fun _ _ _ _ _ _ us hl => b8q (P := fun us => bindArgs _ ⟨us, []⟩ = pure (List.zip _ us)) hl (fun _ _ => rfl))
local macro_rules | `(tactic| walk_at "b3") => `(tactic| exact fun _ _ _ _ _ _ us hl => b8p (P := fun us => bindArgs _ ⟨us, []⟩ = pure (List.zip _ us)) hl (fun _ _ _ => rfl))
local macro_rules | `(tactic| walk_at "b4") => `(tactic| exact fun _ _ _ _ _ _ us hl => b8o (P := fun us => bindArgs _ ⟨us, []⟩ = pure (List.zip _ us)) hl (fun _ _ _ _ => rfl))
local macro_rules | `(tactic| walk_at "b5") => `(tactic| exact fun _ _ _ _ _ _ us hl => b8n (P := fun us => bindArgs _ ⟨us, []⟩ = pure (List.zip _ us)) hl (fun _ _ _ _ _ => rfl))
local macro_rules | `(tactic| walk_at "b6") => `(tactic| exact fun _ _ _ _ _ _ us hl => b9R (P := fun us => bindArgs _ ⟨us, []⟩ = pure (List.zip _ us)) hl (fun _ _ _ _ _ _ => rfl))
local macro_rules | `(tactic| walk_at "sc") => `(tactic| exact ⟨rfl, rfl, rfl, by decide +kernel, rfl, by decide +kernel, by decide +kernel⟩)
local macro_rules | `(tactic| walk_at "rd") => `(tactic| (try simp only [ tKt, b7m, sDPD, b4G, b0c, b4P, b5D, b5M, rInK, b5E, b1p, a6D, b7h, a6t, tCB3, b1m, b7j, b3r, tK, tOp3, tUn3, a5d, b7g, b4E, b7l, b4F, b7r, b1l, b7e, b7i, b7s, tOr3, b4I, b4D, tIf3, b1n, b7d, b7k, b4H, tLM3, b4C, b4B, tLMS, a8G, b6u, b7n, b2t, b5p, tDGK, sDPK, b7c,
 a7Y, a7Z, b6C, b2E, b8G, a7o, tSl3, tNo3, tPt3, b8A, b1H, a6C, b8B, b2y, b6y, b6x, b5N, b5F, b5H, b7G, b7F, b7E, rInt, b5G, rIx3, b5I, b5O, a8F, b1G, b5J, b5L, b3E, a6E, rLt3, rLe3, rGt3, rGe3, a8H, rEq3, rNe3, rEqv, truT, b4g, tyK, tIsi, isiK,
 a8x, a8w, b0s, b0B, b0A, b1L, b2o, List.getElem?_cons_zero, List.getElem?_cons_succ, List.set_cons_zero, List.set_cons_succ, List.length_cons, List.length_nil, List.map_nil, List.isEmpty_cons, List.isEmpty_nil, a0d, b1f, c0p, c0o, c0n, b9T, a8k, a4p,
 a3e, b3F, a5o, a5n, b0y, a8I, a3x, b6G, b0d, a6k, b2P, b0W, b6D, a7b, b2J, b4o, b2I, id, Bool.not_true, Bool.not_false, Bool.and_true, Bool.true_and, Bool.or_false, Bool.false_or,
 decide_eq_true_eq, Bool.not_eq_true', decide_eq_false_iff_not, Bool.false_eq_true, ↓reduceIte, if_true, if_false, true_and, and_true, and_self, Nat.zero_le, not_true_eq_false, not_false_eq_true, List.length_map, List.length_append, List.length_singleton]))
noncomputable abbrev top (i : Nat) : Stmt := PySem.Challenge.pw_loopwright_k76_whole_settled_sums.main.body.getD i (.Pass ⟨0, 0, 0, 0⟩)
noncomputable abbrev a2L : Stmt := top 6
noncomputable abbrev a3d : Stmt := top 7
noncomputable abbrev a3q : Stmt := top 8
noncomputable abbrev a4W : Stmt := top 9
noncomputable abbrev a2M : Stmt := top 10
noncomputable abbrev a1Y : Stmt := top 11
noncomputable abbrev a2y : Stmt := top 12
noncomputable abbrev a3p : Stmt := top 13
noncomputable abbrev a2m : Stmt := top 15
noncomputable abbrev a3o : Stmt := top 16
noncomputable abbrev a4h : Stmt := top 17
noncomputable abbrev a5g : Stmt := top 18
noncomputable abbrev a0K : Stmt := top 22
noncomputable abbrev a6A : Stmt := top 23
noncomputable abbrev a2n : Stmt := top 24
noncomputable abbrev a1R : Stmt := top 27
noncomputable abbrev a2l : Stmt := top 28
noncomputable abbrev a2o : Stmt := top 29
noncomputable abbrev a2K : Stmt := top 30
noncomputable abbrev a4V : Stmt := top 31
noncomputable abbrev a1Q : Stmt := top 32
noncomputable abbrev a1k : Stmt := top 33
noncomputable abbrev a3r : Stmt := top 34
noncomputable abbrev a4i : Stmt := top 35
noncomputable abbrev a2q : Stmt := top 37
noncomputable abbrev a2N : Stmt := top 38
noncomputable abbrev a1S : Stmt := top 39
noncomputable abbrev a2r : Stmt := top 40
noncomputable abbrev a2p : Stmt := top 41
noncomputable abbrev a5J : Stmt := top 42
theorem a7u : FnScope ["strands", "letter"] ["strands", "letter"] (a0c a2L) := by walk_at "sc"
theorem b0v : FnScope ["strands", "word", "most"] ["strands", "word", "most"] (a0c a3d) := by walk_at "sc"
theorem a8B : FnScope ["plait"] ["plait"] (a0c a3q) := by walk_at "sc"
theorem b1D : FnScope ["plait"] ["plait"] (a0c a4W) := by walk_at "sc"
theorem a7v : FnScope ["row", "at"] ["row", "at"] (a0c a2M) := by walk_at "sc"
theorem a7t : FnScope ["order"] ["order"] (a0c a1Y) := by walk_at "sc"
theorem a8A : FnScope ["plait"] ["plait"] (a0c a2y) := by walk_at "sc"
theorem a2I : FnScope ["plait", "standing", "letter"] ["plait"] (a0c a3p) := by walk_at "sc"
theorem a1O : FnScope ["order", "begin", "places", "at"] ["order", "begin"] (a0c a2m) := by walk_at "sc"
theorem a5f : FnScope ["plait", "order", "found"] ["plait"] (a0c a3o) := by walk_at "sc"
theorem b0u : FnScope ["letter"] ["letter"] (a0c a4h) := by walk_at "sc"
theorem b3x : FnScope ["plait"] ["plait"] (a0c a5g) := by walk_at "sc"
theorem a4e : FnScope ["counts"] ["counts"] (a0c a0K) := by walk_at "sc"
theorem a4U : FnScope ["one", "other", "counts", "power", "count"] ["one", "other"] (a0c a6A) := by walk_at "sc"
theorem a0M : FnScope ["one", "other", "counts", "power", "count", "other_power", "other_count", "both"] ["one", "other"] (a0c a2n) := by walk_at "sc"
theorem a3C : FnScope ["most", "worths"] ["most"] (a0c a1R) := by walk_at "sc"
theorem a6y : FnScope ["strands"] ["strands"] (a0c a2l) := by walk_at "sc"
theorem a4f : FnScope ["nest", "number", "below"] ["nest", "number"] (a0c a2o) := by walk_at "sc"
theorem a3c : FnScope ["nest", "number", "below", "joined"] ["nest", "number"] (a0c a2K) := by walk_at "sc"
theorem b1C : FnScope ["worths", "nest", "worth"] ["worths", "nest", "worth"] (a0c a4V) := by walk_at "sc"
theorem a0S : FnScope ["worths", "letter", "sign", "found", "nest", "worth", "hooked"] ["worths", "letter"] (a0c a1Q) := by walk_at "sc"
theorem a0u : FnScope ["nest", "strands", "seen", "loops", "begin", "at"] ["nest"] (a0c a1k) := by walk_at "sc"
theorem a0N : FnScope ["plait", "worths", "letter", "loops", "whole", "nest", "worth"] ["plait"] (a0c a3r) := by walk_at "sc"
theorem a3n : FnScope ["plait", "whole", "many", "count"] ["plait"] (a0c a4i) := by walk_at "sc"
theorem a2J : FnScope ["script", "k", "cell"] ["script", "k"] (a0c a2q) := by walk_at "sc"
theorem a2k : FnScope ["state", "many", "found", "mixed"] ["state", "many"] (a0c a2N) := by walk_at "sc"
theorem a3D : FnScope ["state", "strands", "number"] ["state", "strands"] (a0c a1S) := by walk_at "sc"
theorem a1P : FnScope ["state", "most", "longest", "strands", "word", "k"] ["state", "most", "longest"] (a0c a2r) := by walk_at "sc"
theorem a6z : FnScope ["found"] ["found"] (a0c a2p) := by walk_at "sc"
theorem a4g : FnScope ["script", "plait", "found", "signs", "due", "one", "total", "piece"] ["script"] (a0c a5J) := by walk_at "sc"
structure Zs (K : PySem.W.Frag) (mg : Str → Option Value) : Prop where
 b_abs : mg "abs" = none
 b_all : mg "all" = none
 b_bool : mg "bool" = none
 b_dict : mg "dict" = none
 b_int : mg "int" = none
 b_isinstance : mg "isinstance" = none
 b_len : mg "len" = none
 b_list : mg "list" = none
 b_range : mg "range" = none
 b_reversed : mg "reversed" = none
 b_sorted : mg "sorted" = none
 b_sum : mg "sum" = none
 b_tuple : mg "tuple" = none
 c_LOOP : ∃ u : Addr, mg "LOOP" = some (.ref u) ∧ ∀ H, Rep K H (.ref u) (.tup [.tup [.int (-2), .int (-1)], .tup [.int (2), .int (-1)]])
 c_MOST_LETTERS : ∃ tk, mg "MOST_LETTERS" = some (.int 16 tk)
 c_MOST_STRANDS : ∃ tk, mg "MOST_STRANDS" = some (.int 6 tk)
 c_NOUGHT : ∃ u : Addr, mg "NOUGHT" = some (.ref u) ∧ ∀ H, Rep K H (.ref u) (.tup [])
 c_ONE : ∃ u : Addr, mg "ONE" = some (.ref u) ∧ ∀ H, Rep K H (.ref u) (.tup [.tup [.int (0), .int (1)]])
noncomputable def a1A : Sp3 := fun ts M Q => match ts with
 | [.int n, .int l] => Q (.bl (a7U n l)) M
 | _ => False
theorem a7E {P w K base f fd} {mg : Str → Option Value} {n : Nat}  (F : Fun K "is_letter" "is_letter" a2L f fd) (hm : mg "is_letter" = some (.ref f)) (hb : a0V K fd ["strands", "letter"] []) (Z : Zs K mg)  : Df P w K mg base (n + 1) "is_letter" ["strands", "letter"] a1A := by
 refine F.dfn hm hb a7u (by unfold a1A; walk_at "ln") ⟨_, fun cdv A outer s H E hr => (@a0j _ _ _ (@a0U _ _ _ _ (@b6B _ _ _ _ _ _ _ _ _ _ _ _ a9F b1T a0f (@a0I _ _ _ _ _ _ _ _ _ a4r Z.b_abs PyProof.Rows.boot_abs (@a0a _ _ _ _ _ (@hv _ 1 _ _ (by rfl) (by walk_at "3") (by decide) (by decide)) a0e (by rfl)) (by rfl) (by decide) (by decide) (by rfl) (by rfl)) (@hv _ 0 _ _ (by rfl) (by walk_at "3") (by decide) (by decide)) (by with_unfolding_all rfl)))), fun ts M Q h => ?_⟩
 unfold a1A a7U at h
 split at h
 ·rename_i n l
  walk_at "rd"
  refine ite2 (fun c => a0n ?_) (fun c => a0n ?_)
  ·simpa [show 1 ≤ l.natAbs by lia] using h
  ·simpa [show ¬ 1 ≤ l.natAbs by lia] using h
 ·exact h.elim
noncomputable def a3l : Sp3 := fun ts M Q => match ts with
 | [.int n, .tup w, .int k] => ∃ ws : List Int, w = ws.map .int ∧ ws.length < 10000 ∧ Q (.bl (isWd n ws k)) M
 | _ => False
theorem b0G {P w K base f fd} {mg : Str → Option Value} {n : Nat}  (F : Fun K "is_word" "is_word" a3d f fd) (hm : mg "is_word" = some (.ref f)) (hb : a0V K fd ["strands", "word", "most"] []) (Z : Zs K mg) (D_is_letter : Df P w K mg base n "is_letter" ["strands", "letter"] a1A) : Df P w K mg base (n + 1) "is_word" ["strands", "word", "most"] a3l := by
 obtain ⟨tk_MOST_STRANDS, c_MOST_STRANDS⟩ := Z.c_MOST_STRANDS
 refine F.dfn hm hb b0v (by unfold a3l; walk_at "ln") ⟨_, fun cdv A outer s H E hr => (@a0b _ _ _ _ _ (@s_if _ _ _ _ _ _ _ _ (@HW.ht _ _ _ (@w_or _ _ _ _ _ _ _ (@b0P _ _ _ _ (@b4i _ _ _ _ _ _ _ _ _ _ _ _ a9F a9F a0f (@hv _ 0 _ _ (by rfl) (by walk_at "3") (by decide) (by decide)) (@b2B _ _ _ _ _ c_MOST_STRANDS (by rfl) (by decide)) (by with_unfolding_all rfl))) (@b5k _ _ _ _ (@a1D _ _ _ _ _ _ _ _ a9G (@a0I _ _ _ _ _ _ _ _ _ a0Q Z.b_len PySem.boot_len (@a0a _ _ _ _ _ (@hv _ 1 _ _ (by rfl) (by walk_at "3") (by decide) (by decide)) a0e (by rfl)) (by rfl) (by decide) (by decide) (by rfl) (by rfl)) (@hv _ 2 _ _ (by rfl) (by walk_at "3") (by decide) (by decide)) (@a1r _ _ (by decide) (by decide)))))) (@a0j _ _ _ (@a0U _ _ _ _ h_bl)) a3b) (@a0j _ _ _ (@a0U _ _ _ _ (@a0I _ _ _ _ _ _ _ _ _ (@b3c _ rfl) Z.b_all PyProof.Rows.boot_all (@a0a _ _ _ _ _ (@a3G _ _ _ _ _ _ _ _ _ _ _ _ _ _ rfl (@a4y _ _ _ _ (@hv _ 1 _ _ (by rfl) (by walk_at "3") (by decide) (by decide))) (@a1d _ (a0c a3d) _ (["strands", "word", "most"]) (["letter", "strands"]) ([none, some 0]) (by decide +kernel) rfl rfl) a3U (fun _ _ _ _ _ => @a1n _ _ 0 _ (show List.Nodup (["letter", "strands"] : List Str) by decide +kernel) rfl (Or.inl rfl) (Or.inr rfl)) (fun _ _ _ _ _ => a4J) (fun _ _ _ _ _ => (@a0m _ _ _ _ _ _ _ _ _ _ D_is_letter hr (@a0a _ _ _ _ _ (@hv _ 1 _ _ (by rfl) (by walk_at "3") (by decide) (by decide)) (@a0a _ _ _ _ _ (@hv _ 0 _ _ (by rfl) (by walk_at "3") (by decide) (by decide)) a0e (by rfl)) (by rfl)) (by rfl) (by decide) (by rfl) (by rfl))) (by intro _; rfl)) a0e (by rfl)) (by rfl) (by decide) (by decide) (by rfl) (by rfl))))), fun ts M Q h => ?_⟩
 unfold a3l at h
 split at h
 ·rename_i n w k
  obtain ⟨ws, rfl, hl, h⟩ := h
  unfold isWd at h
  walk_at "rd"
  refine ite2 (fun c1 => ite2 (fun c2 => ?_) fun c2 => ite2 (fun c3 => ?_) fun c3 => ?_) fun c1 => ?_
  ·rw [decide_eq_false c2, Bool.and_false, Bool.false_and] at h
   exact a0n h
  ·rw [decide_eq_false (show ¬ (ws.length : Int) ≤ k by lia), Bool.and_false, Bool.false_and] at h
   exact a0n h
  ·rw [decide_eq_true c1, decide_eq_true (show n ≤ 6 by lia), decide_eq_true (show (ws.length : Int) ≤ k by lia)] at h
   refine ⟨fun i ys M' => ys = ((ws.take i).map (a7U n)).map T.bl ∧ M' = M, ⟨rfl, rfl⟩, fun _ _ _ _ => trivial, Nat.lt_of_le_of_lt (by lia : ws.length ≤ 10000) (by decide), ?_, ?_⟩
   ·rintro i x ys M' hx ⟨rfl, rfl⟩
    obtain ⟨l, hl', rfl⟩ := a0O hx
    unfold a1A
    refine ⟨?_, rfl⟩
    rw [← a0A (a7U n) hl', List.map_append]; rfl
   ·rintro ys M' ⟨rfl, rfl⟩ p hp
    rw [List.take_length, a8k]
    refine a1Z (M0 := M') ?_ (Sub.new hp)
    rw [List.all_map]
    exact h
  ·rw [decide_eq_false c1, Bool.false_and, Bool.false_and, Bool.false_and] at h
   exact a0n h
 ·exact h.elim
noncomputable def a2H : Sp3 := fun ts M Q => match ts with
 | [.tup [.int n, .tup w]] => ∃ ws : List Int, w = ws.map .int ∧ ws.length < 10000 ∧ Q (.bl (isPl n ws)) M
 | _ => False
theorem a8N {P w K base f fd} {mg : Str → Option Value} {n : Nat}  (F : Fun K "is_plait" "is_plait" a3q f fd) (hm : mg "is_plait" = some (.ref f)) (hb : a0V K fd ["plait"] []) (Z : Zs K mg) (D_is_word : Df P w K mg base n "is_word" ["strands", "word", "most"] a3l) : Df P w K mg base (n + 1) "is_plait" ["plait"] a2H := by
 obtain ⟨tk_MOST_LETTERS, c_MOST_LETTERS⟩ := Z.c_MOST_LETTERS
 refine F.dfn hm hb a8B (by unfold a2H; walk_at "ln") ⟨_, fun cdv A outer s H E hr => (@a0j _ _ _ (@a0U _ _ _ _ (@a0m _ _ _ _ _ _ _ _ _ _ D_is_word hr (@a0a _ _ _ _ _ (@h_ix _ _ _ _ _ _ (@hv _ 0 _ _ (by rfl) (by walk_at "3") (by decide) (by decide)) a0f (by intro _ _; rfl)) (@a0a _ _ _ _ _ (@h_ix _ _ _ _ _ _ (@hv _ 0 _ _ (by rfl) (by walk_at "3") (by decide) (by decide)) a0f (by intro _ _; rfl)) (@a0a _ _ _ _ _ (@b2B _ _ _ _ _ c_MOST_LETTERS (by rfl) (by decide)) a0e (by rfl)) (by rfl)) (by rfl)) (by rfl) (by decide) (by rfl) (by rfl)))), fun ts M Q h => ?_⟩
 unfold a2H at h
 split at h
 ·rename_i n w
  obtain ⟨ws, rfl, hl, h⟩ := h
  walk_at "rd"
  refine ⟨ws, rfl, hl, ?_⟩
  rw [b6t]
  exact a0n h
 ·exact h.elim
noncomputable def a1W : Sp3 := fun ts M Q => match ts with
 | [.tup [.int n, .tup w]] => ∃ ws : List Int, w = ws.map .int ∧ PlOK n ws ∧ Q (.int ws.length) M
 | _ => False
theorem b1W {P w K base f fd} {mg : Str → Option Value} {n : Nat}  (F : Fun K "looked" "looked" a4W f fd) (hm : mg "looked" = some (.ref f)) (hb : a0V K fd ["plait"] []) (Z : Zs K mg) (D_is_plait : Df P w K mg base n "is_plait" ["plait"] a2H) : Df P w K mg base (n + 1) "looked" ["plait"] a1W := by
 refine F.dfn hm hb b1D (by unfold a1W; walk_at "ln") ⟨_, fun cdv A outer s H E hr => (@a0b _ _ _ _ _ (@s_if _ _ _ _ _ _ _ _ (@b0P _ _ _ _ (@a4z _ _ _ (@a0m _ _ _ _ _ _ _ _ _ _ D_is_plait hr (@a0a _ _ _ _ _ (@hv _ 0 _ _ (by rfl) (by walk_at "3") (by decide) (by decide)) a0e (by rfl)) (by rfl) (by decide) (by rfl) (by rfl)) (by intro _; rfl))) (@a0j _ _ _ b5x) a3b) (@a0j _ _ _ (@a0U _ _ _ _ (@a0I _ _ _ _ _ _ _ _ _ a0Q Z.b_len PySem.boot_len (@a0a _ _ _ _ _ (@h_ix _ _ _ _ _ _ (@hv _ 0 _ _ (by rfl) (by walk_at "3") (by decide) (by decide)) a0f (by intro _ _; rfl)) a0e (by rfl)) (by rfl) (by decide) (by decide) (by rfl) (by rfl))))), fun ts M Q h => ?_⟩
 unfold a1W at h
 split at h
 ·rename_i n w
  obtain ⟨ws, rfl, ok, h⟩ := h
  walk_at "rd"
  refine ⟨ws, rfl, by have := ok.2.2.1; lia, ?_⟩
  rw [ok.is]
  walk_at "rd"
  exact a0n (M := M) h
 ·exact h.elim
noncomputable def a2j : Sp3 := fun ts M Q => match ts with
 | [.tup w, .int k] => ∃ ws : List Int, w = ws.map .int ∧ 0 ≤ k ∧ k + 1 < ws.length ∧ ws.length < 10000 ∧ Q (.tup ((b0q ws k.toNat).map .int)) M
 | _ => False
theorem a7F {P w K base f fd} {mg : Str → Option Value} {n : Nat}  (F : Fun K "exchanged" "exchanged" a2M f fd) (hm : mg "exchanged" = some (.ref f)) (hb : a0V K fd ["row", "at"] []) (Z : Zs K mg)  : Df P w K mg base (n + 1) "exchanged" ["row", "at"] a2j := by
 refine F.dfn hm hb a7v (by unfold a2j; walk_at "ln") ⟨_, fun cdv A outer s H E hr => (@a0j _ _ _ (@a0U _ _ _ _ (@a0q _ _ _ _ _ _ _ _ a0T (@a0q _ _ _ _ _ _ _ _ a0T (@a8X _ _ _ _ _ _ _ _ _ (@hv _ 0 _ _ (by rfl) (by walk_at "3") (by decide) (by decide)) b1Z (@b1Y _ _ _ (@hv _ 1 _ _ (by rfl) (by walk_at "3") (by decide) (by decide)))) (@a4S _ _ _ _ _ (@a0a _ _ _ _ _ (@h_ix _ _ _ _ _ _ (@hv _ 0 _ _ (by rfl) (by walk_at "3") (by decide) (by decide)) (@a0q _ _ _ _ _ _ _ _ a0T (@hv _ 1 _ _ (by rfl) (by walk_at "3") (by decide) (by decide)) a0f) (by intro _ _; rfl)) (@a0a _ _ _ _ _ (@h_ix _ _ _ _ _ _ (@hv _ 0 _ _ (by rfl) (by walk_at "3") (by decide) (by decide)) (@hv _ 1 _ _ (by rfl) (by walk_at "3") (by decide) (by decide)) (by intro _ _; rfl)) a0e (by rfl)) (by rfl)))) (@a8X _ _ _ _ _ _ _ _ _ (@hv _ 0 _ _ (by rfl) (by walk_at "3") (by decide) (by decide)) (@b1Y _ _ _ (@a0q _ _ _ _ _ _ _ _ a0T (@hv _ 1 _ _ (by rfl) (by walk_at "3") (by decide) (by decide)) a0f)) b1Z)))), fun ts M Q h => ?_⟩
 unfold a2j at h
 split at h
 ·rename_i w k
  obtain ⟨ws, rfl, k0, k1, hl, h⟩ := h
  obtain ⟨i, rfl⟩ := Int.eq_ofNat_of_zero_le k0
  walk_at "rd"
  have a1 : atI (ws.map T.int) ((i : Int) + 1) = some (.int (ws.getD (i + 1) 0)) := by
   have := a5b ws ((i : Int) + 1) (by lia) (by lia)
   rwa [show ((i : Int) + 1).toNat = i + 1 by lia] at this
  have a2 : atI (ws.map T.int) (i : Int) = some (.int (ws.getD i 0)) := by
   have := a5b ws (i : Int) (by lia) (by lia)
   rwa [Int.toNat_natCast] at this
  have c1 : cutT (ws.map T.int) none (some (i : Int)) = (ws.take i).map T.int := by
   rw [b6J _ _ (by lia) (by rw [List.length_map]; lia), Int.toNat_natCast, List.map_take]
  have c2 : cutT (ws.map T.int) (some ((i : Int) + 2)) none = (ws.drop (i + 2)).map T.int := by
   have k1' : i + 1 < ws.length := by lia
   rw [b2U _ _ (by lia) (by rw [List.length_map]; lia), show ((i : Int) + 2).toNat = i + 2 by lia, List.map_drop]
  have l1 : (ws.take i).length = i := by rw [List.length_take]; lia
  have l2 : (ws.drop (i + 2)).length = ws.length - (i + 2) := List.length_drop ..
  simp only [a1, a2, c1, c2]
  walk_at "rd"
  refine ⟨by decide, a5r (by lia), a5r (by lia), ?_⟩
  have e : List.map T.int (List.take i ws) ++ [T.int (ws.getD (i + 1) 0), T.int (ws.getD i 0)] ++ List.map T.int (List.drop (i + 2) ws) = List.map T.int (b0q ws i) := by
   rw [← b1q ws i (by lia)]
   simp
  rw [e]
  exact a0n h
 ·exact h.elim
noncomputable def a2i : Sp3 := fun ts M Q => match ts with
 | [.tup w] => ∃ ws : List Int, w = ws.map .int ∧ ws.length < 10000 ∧ (∀ s : Int, 0 ≤ s → s < ws.length → s ∈ ws) ∧ Q (.tup (((a0h ws.length).map fun s => ((ws.idxOf s : Nat) : Int)).map .int)) M
 | _ => False
theorem a7D {P w K base f fd} {mg : Str → Option Value} {n : Nat}  (F : Fun K "places_in" "places_in" a1Y f fd) (hm : mg "places_in" = some (.ref f)) (hb : a0V K fd ["order"] []) (Z : Zs K mg)  : Df P w K mg base (n + 1) "places_in" ["order"] a2i := by
 refine F.dfn hm hb a7t (by unfold a2i; walk_at "ln") ⟨_, fun cdv A outer s H E hr => (@a0j _ _ _ (@a0U _ _ _ _ (@a2u _ _ _ _ _ _ _ _ _ a1v Z.b_tuple PyProof.Rows.boot_tuple (@a0a _ _ _ _ _ (@a3G _ _ _ _ _ _ _ _ _ _ _ _ _ _ rfl (@a4q _ _ _ _ _ _ Z.b_range (@a0a _ _ _ _ _ (@a0I _ _ _ _ _ _ _ _ _ a0Q Z.b_len PySem.boot_len (@a0a _ _ _ _ _ (@hv _ 0 _ _ (by rfl) (by walk_at "3") (by decide) (by decide)) a0e (by rfl)) (by rfl) (by decide) (by decide) (by rfl) (by rfl)) a0e (by rfl)) (by rfl) (by rfl)) (@a1d _ (a0c a1Y) _ ["order"] (["number", "order"]) ([none, some 0]) (by decide +kernel) rfl rfl) a3U (fun _ _ _ _ _ => @a1n _ _ 0 _ (show List.Nodup (["number", "order"] : List Str) by decide +kernel) rfl (Or.inl rfl) (Or.inr rfl)) (fun _ _ _ _ _ => a4J) (fun _ _ _ _ _ => (@b2A _ _ _ _ _ _ _ _ (@hv _ 1 _ _ (by rfl) (by walk_at "3") (by decide) (by decide)) (@a0a _ _ _ _ _ (@hv _ 0 _ _ (by rfl) (by walk_at "3") (by decide) (by decide)) a0e (by rfl)) (by rfl) (by rfl) (by rfl) (by rfl) (by rfl))) (by intro _; rfl)) a0e (by rfl)) (by rfl) (by decide) (by decide) (by rfl) (by rfl)))), fun ts M Q h => ?_⟩
 unfold a2i at h
 split at h
 ·rename_i w
  obtain ⟨ws, rfl, hl, hmm, h⟩ := h
  walk_at "rd"
  have lm : (ws.map T.int).length = ws.length := List.length_map ..
  refine ⟨by lia, by lia, fun i ys M2 => ys = (((a0h ws.length).take i).map fun s => ((ws.idxOf s : Nat) : Int)).map T.int ∧ M2 = M, ⟨rfl, rfl⟩, fun _ _ _ _ => trivial, by rw [a1m]; exact Nat.lt_of_le_of_lt (by lia : (ws.length : Int).toNat ≤ 10000) (by decide), ?_, ?_⟩
  ·rintro i x ys M2 hx ⟨rfl, rfl⟩
   rw [b5C] at hx
   obtain ⟨s, hs, rfl⟩ := a0O hx
   obtain ⟨s0, s1⟩ := a1i (List.mem_of_getElem? hs)
   walk_at "rd"
   refine ⟨hmm s s0 s1, ?_⟩
   rw [← a0A (fun s => ((ws.idxOf s : Nat) : Int)) hs, List.map_append]; rfl
  ·rintro ys M2 ⟨rfl, rfl⟩ q hq
   rw [a1m, List.take_of_length_le (by rw [a0r]; exact Nat.le_refl _)]
   exact a1Z (M0 := M2) h (Sub.new hq)
 ·exact h.elim
noncomputable def a2G : Sp3 := fun ts M Q => match ts with
 | [.tup [.int n, .tup w]] => ∃ ws : List Int, w = ws.map .int ∧ PlOK n ws ∧ Q (.tup [.int n, .tup ((ws.map fun l => -l).map .int)]) M
 | _ => False
theorem a8M {P w K base f fd} {mg : Str → Option Value} {n : Nat}  (F : Fun K "mirrored" "mirrored" a2y f fd) (hm : mg "mirrored" = some (.ref f)) (hb : a0V K fd ["plait"] []) (Z : Zs K mg) (D_looked : Df P w K mg base n "looked" ["plait"] a1W) : Df P w K mg base (n + 1) "mirrored" ["plait"] a2G := by
 refine F.dfn hm hb a8A (by unfold a2G; walk_at "ln") ⟨_, fun cdv A outer s H E hr => (@a0b _ _ _ _ _ (@a3E _ _ _ _ (@a0m _ _ _ _ _ _ _ _ _ _ D_looked hr (@a0a _ _ _ _ _ (@hv _ 0 _ _ (by rfl) (by walk_at "3") (by decide) (by decide)) a0e (by rfl)) (by rfl) (by decide) (by rfl) (by rfl)) (by rfl)) (@a0j _ _ _ (@a0U _ _ _ _ (@a4S _ _ _ _ _ (@a0a _ _ _ _ _ (@h_ix _ _ _ _ _ _ (@hv _ 0 _ _ (by rfl) (by walk_at "3") (by decide) (by decide)) a0f (by intro _ _; rfl)) (@a0a _ _ _ _ _ (@a2u _ _ _ _ _ _ _ _ _ a1v Z.b_tuple PyProof.Rows.boot_tuple (@a0a _ _ _ _ _ (@a3G _ _ _ _ _ _ _ _ _ _ _ _ _ _ rfl (@a4y _ _ _ _ (@h_ix _ _ _ _ _ _ (@hv _ 0 _ _ (by rfl) (by walk_at "3") (by decide) (by decide)) a0f (by intro _ _; rfl))) (@a1d _ (a0c a2y) _ ["plait"] ["letter"] [none] (by decide +kernel) rfl rfl) a3U (fun _ _ _ _ _ => @a1n _ _ 0 _ (show List.Nodup (["letter"] : List Str) by decide +kernel) rfl (Or.inl rfl) (Or.inr rfl)) (fun _ _ _ _ _ => a4J) (fun _ _ _ _ _ => (@h_un _ _ _ _ _ _ a1G (@hv _ 0 _ _ (by rfl) (by walk_at "3") (by decide) (by decide)))) (by intro _; rfl)) a0e (by rfl)) (by rfl) (by decide) (by decide) (by rfl) (by rfl)) a0e (by rfl)) (by rfl)))))), fun ts M Q h => ?_⟩
 unfold a2G at h
 split at h
 ·rename_i n w
  obtain ⟨ws, rfl, ok, h⟩ := h
  have hl : ws.length < 10000 := by have := ok.2.2.1; lia
  walk_at "rd"
  refine ⟨ws, rfl, ok, ?_⟩
  walk_at "rd"
  refine ⟨fun i ys M' => ys = ((ws.take i).map (fun l => -l)).map T.int ∧ M' = M, ⟨rfl, rfl⟩, fun _ _ _ _ => trivial, ?_, ?_, ?_⟩
  ·exact Nat.lt_of_le_of_lt (by lia : ws.length ≤ 10000) (by decide)
  ·rintro i x ys M' hx ⟨rfl, rfl⟩
   obtain ⟨l, hl', rfl⟩ := a0O hx
   walk_at "rd"
   rw [← a0A (fun l : Int => -l) hl', List.map_append]; rfl
  ·rintro ys M' ⟨rfl, rfl⟩ p hp
   rw [List.take_length]
   exact ⟨by decide, a1Z (M0 := M') h (Sub.new hp)⟩
 ·exact h.elim
noncomputable def a2F : Sp3 := fun ts M Q => match ts with
 | [.tup [.int n, .tup w]] => ∃ ws : List Int, w = ws.map .int ∧ PlOK n ws ∧ Q (.tup ((a0o n ws).map .int)) M
 | _ => False
theorem a8L {P w K base f fd} {mg : Str → Option Value} {n : Nat}  (F : Fun K "order_of" "order_of" a3p f fd) (hm : mg "order_of" = some (.ref f)) (hb : a0V K fd ["plait"] []) (Z : Zs K mg) (D_looked : Df P w K mg base n "looked" ["plait"] a1W) (D_exchanged : Df P w K mg base n "exchanged" ["row", "at"] a2j) (D_places_in : Df P w K mg base n "places_in" ["order"] a2i) : Df P w K mg base (n + 1) "order_of" ["plait"] a2F := by
 refine F.dfn hm hb a2I (by unfold a2F; walk_at "ln") ⟨_, fun cdv A outer s H E hr => (@a0b _ _ _ _ _ (@a3E _ _ _ _ (@a0m _ _ _ _ _ _ _ _ _ _ D_looked hr (@a0a _ _ _ _ _ (@hv _ 0 _ _ (by rfl) (by walk_at "3") (by decide) (by decide)) a0e (by rfl)) (by rfl) (by decide) (by rfl) (by rfl)) (by rfl)) (@a0b _ _ _ _ _ (@a0D _ _ _ _ 1 _ _ (@a5v _ _ _ _ _ _ _ Z.b_tuple Z.b_range (@a0a _ _ _ _ _ (@h_ix _ _ _ _ _ _ (@hv _ 0 _ _ (by rfl) (by walk_at "3") (by decide) (by decide)) a0f (by intro _ _; rfl)) a0e (by rfl)) (by rfl) (by rfl) (by rfl) (by rfl) (by rfl)) a2I.nd (by rfl) (by walk_at "2") (by rfl) (by walk_at "4")) (@a0b _ _ _ _ _ (@a5h _ _ _ _ _ _ _ _ PassesOwn.never rfl (@a4y _ _ _ _ (@h_ix _ _ _ _ _ _ (@hv _ 0 _ _ (by rfl) (by walk_at "3") (by decide) (by decide)) a0f (by intro _ _; rfl))) (@a1H _ _ 2 _ a2I.nd (by rfl) (by walk_at "2") (by walk_at "4")) (@a0j _ _ _ (@a0D _ _ _ _ 1 _ _ (@a0m _ _ _ _ _ _ _ _ _ _ D_exchanged hr (@a0a _ _ _ _ _ (@hv _ 1 _ _ (by rfl) (by walk_at "3") (by decide) (by decide)) (@a0a _ _ _ _ _ (@a0q _ _ _ _ _ _ _ _ a2a (@a0I _ _ _ _ _ _ _ _ _ a4r Z.b_abs PyProof.Rows.boot_abs (@a0a _ _ _ _ _ (@hv _ 2 _ _ (by rfl) (by walk_at "3") (by decide) (by decide)) a0e (by rfl)) (by rfl) (by decide) (by decide) (by rfl) (by rfl)) a0f) a0e (by rfl)) (by rfl)) (by rfl) (by decide) (by rfl) (by rfl)) a2I.nd (by rfl) (by walk_at "2") (by rfl) (by walk_at "4"))) (by intro _; rfl)) (@a0j _ _ _ (@a0U _ _ _ _ (@a0m _ _ _ _ _ _ _ _ _ _ D_places_in hr (@a0a _ _ _ _ _ (@hv _ 1 _ _ (by rfl) (by walk_at "3") (by decide) (by decide)) a0e (by rfl)) (by rfl) (by decide) (by rfl) (by rfl))))))), fun ts M Q h => ?_⟩
 unfold a2F at h
 split at h
 ·rename_i n w
  obtain ⟨ws, rfl, ok, h⟩ := h
  obtain ⟨o1, o2, o3, o4⟩ := id ok
  walk_at "rd"
  refine ⟨ws, rfl, ok, ?_⟩
  walk_at "rd"
  refine ⟨⟨by lia, by lia⟩, ?_⟩
  refine ⟨fun i ρ M' => ∃ a, ρ = [some (T.tup [T.int n, T.tup (ws.map T.int)]), some (T.tup ((a1q n (ws.take i)).map T.int)), a] ∧ Sub M M',
   ⟨none, by rw [a5W]; rfl, Sub.refl⟩, fun _ _ _ _ => trivial, ?_, ?_⟩
  ·rintro i x ρ M' hx ⟨a, rfl, hS⟩
   obtain ⟨l, hl, rfl⟩ := a0O hx
   have lk : LetOK n l := o4 l (List.mem_of_getElem? hl)
   unfold LetOK at lk
   have sl := a0X n (ws.take i)
   walk_at "rd"
   refine ⟨_, rfl, by lia, by rw [sl]; lia, by rw [sl]; lia, some (.int l), ?_, hS⟩
   rw [a8y hl, show ((l.natAbs : Int) - 1).toNat = l.natAbs - 1 by lia, a8v _ _ (by lia)]
  ·rintro ρ M' ⟨a, rfl, hS⟩
   rw [List.length_map, List.take_length]
   walk_at "rd"
   refine ⟨_, rfl, by rw [a0X]; lia, ?_, ?_⟩
   ·intro s s0 s1
    rw [a0X] at s1
    exact b1u n ws o4 s s0 (by lia)
   ·have e : (((a1q n ws).length : Nat) : Int) = n := by rw [a0X]; lia
    rw [e]
    exact a1Z h hS
 ·exact h.elim
theorem b1e {c : TT3} {b : TS3} {D : Ends3} {ρ : En} {M : MH} (h : ∀ B : TS3, B = b → a3a c B D ρ M) : a3a c b D ρ M := h _ rfl
noncomputable def a1J : Sp3 := fun ts M Q => match ts with
 | [.tup o, .int b] => ∃ (os : List Int) (n : Int), o = os.map .int ∧ 1 ≤ n ∧ n ≤ 6 ∧ IsP n os ∧ b ∈ a0h n ∧ ∀ r, M r = none → Q (.adr r) (updM M r (.lst ((pcF os n b).map .int)))
 | _ => False
theorem a9U {n : Int} {os : List Int} (h : IsP n os) {a : Int} (ha : InM n a) : atI (os.map T.int) a = some (.int (gI os a)) ∧ InM n (gI os a) :=
 ⟨b8H ha.1 (by rw [h.length_eq, a0r]; have := ha.2; lia), (b9Z h ha).1⟩
theorem a6N {P w K base f fd} {mg : Str → Option Value} {n : Nat}  (F : Fun K "piece_from" "piece_from" a2m f fd) (hm : mg "piece_from" = some (.ref f)) (hb : a0V K fd ["order", "begin"] []) (Z : Zs K mg)  : Df P w K mg base (n + 1) "piece_from" ["order", "begin"] a1J := by
 refine F.dfn hm hb a1O (by unfold a1J; walk_at "ln") ⟨_, fun cdv A outer s H E hr => (@a0b _ _ _ _ _ (@a0D _ _ _ _ 2 _ _ (@a7V _ _ _ _ (@a0a _ _ _ _ _ (@hv _ 1 _ _ (by rfl) (by walk_at "3") (by decide) (by decide)) a0e (by rfl))) a1O.nd (by rfl) (by walk_at "2") (by rfl) (by walk_at "4")) (@a0b _ _ _ _ _ (@a0D _ _ _ _ 3 _ _ (@h_ix _ _ _ _ _ _ (@hv _ 0 _ _ (by rfl) (by walk_at "3") (by decide) (by decide)) (@hv _ 1 _ _ (by rfl) (by walk_at "3") (by decide) (by decide)) (by intro _ _; rfl)) a1O.nd (by rfl) (by walk_at "2") (by rfl) (by walk_at "4")) (@a0b _ _ _ _ _ (@a8C _ _ _ _ _ _ PassesOwn.never (@a1D _ _ _ _ _ _ _ _ (@a9E _ hr.units) (@hv _ 3 _ _ (by rfl) (by walk_at "3") (by decide) (by decide)) (@hv _ 1 _ _ (by rfl) (by walk_at "3") (by decide) (by decide)) (@a1r _ _ (by decide) (by decide))) (@a0b _ _ _ _ _ (@a3E _ _ _ _ (@a4A _ _ _ _ _ _ _ _ (@hv _ 2 _ _ (by rfl) (by walk_at "3") (by decide) (by decide)) (@a0a _ _ _ _ _ (@hv _ 3 _ _ (by rfl) (by walk_at "3") (by decide) (by decide)) a0e (by rfl)) (by rfl) (by rfl) (by rfl) (by rfl) (by rfl)) (by rfl)) (@a0j _ _ _ (@a0D _ _ _ _ 3 _ _ (@h_ix _ _ _ _ _ _ (@hv _ 0 _ _ (by rfl) (by walk_at "3") (by decide) (by decide)) (@hv _ 3 _ _ (by rfl) (by walk_at "3") (by decide) (by decide)) (by intro _ _; rfl)) a1O.nd (by rfl) (by walk_at "2") (by rfl) (by walk_at "4"))))) (@a0j _ _ _ (@a0U _ _ _ _ (@a0I _ _ _ _ _ _ _ _ _ a8j Z.b_sorted PyProof.Rows.boot_sorted (@a0a _ _ _ _ _ (@hv _ 2 _ _ (by rfl) (by walk_at "3") (by decide) (by decide)) a0e (by rfl)) (by rfl) (by decide) (by decide) (by rfl) (by rfl))))))), fun ts M Q h => ?_⟩
 unfold a1J at h
 split at h
 ·rename_i o b
  obtain ⟨os, n, rfl, n1, n6, ho, hb, h⟩ := h
  have hbm : InM n b := a1i hb
  obtain ⟨c, hc, hcp⟩ := b4X n1 n6 ho hb
  refine b3w fun K1 hK1 => ?_
  walk_at "rd"
  refine ⟨by decide, fun p hp => ?_⟩
  rw [(a9U ho hbm).1]
  dsimp only
  have hMp : (updM M p (MO.lst [T.int b])) p = some (.lst ([b].map .int)) := a0d
  have hS := Sub.new hp (o := MO.lst [T.int b])
  generalize updM M p (MO.lst [T.int b]) = M1 at hMp hS ⊢
  have ham := (a9U ho hbm).2
  generalize gI os b = a0 at hc ham ⊢
  refine b1e fun C hC => ?_
  unfold a3a
  refine ⟨fun m ρ M' => ∃ (a : Int) (acc : List Int), ρ = [some (T.tup (os.map T.int)), some (T.int b), some (T.adr p), some (T.int a)] ∧ InM n a ∧ cyc os b m a acc = some c ∧ M' p = some (.lst (acc.map .int)) ∧ acc.length + m ≤ 8 ∧ Sub M M', ⟨7, a0, [b], rfl, ham, hc, hMp, Nat.le_refl _, hS⟩, ?_⟩
  rintro m ρ M' ⟨a, acc, rfl, ha, hcy, hp1, hal, hS1⟩
  walk_at "rd"
  cases m with
  | zero => cases hcy
  | succ f =>
    refine ite2 (fun ne => ?_) (fun eq => ?_)
    ·rw [hC]
     walk_at "rd"
     rw [hp1]
     dsimp only
     rw [(a9U ho ha).1]
     dsimp only
     refine ⟨trivial, a0J (by rw [List.length_map]; lia), f, Nat.lt_succ_self _, gI os a, acc ++ [a], rfl, (a9U ho ha).2, ?_, by rw [List.map_append]; rfl, by rw [List.length_append, List.length_singleton]; lia, hS1.updF hp⟩
     rw [← hcy]
     exact (if_neg ne).symm
    ·have : acc = c := by
      have h2 : (if a = b then some acc else cyc os b f (gI os a) (acc ++ [a])) = some c := hcy
      rw [if_pos (Classical.not_not.mp eq)] at h2
      exact Option.some.inj h2
     subst this
     rw [hK1]
     walk_at "rd"
     rw [hp1]
     refine ⟨acc, rfl, by lia, fun ms m1 m2 r hr => ?_⟩
     have : ms = pcF os n b := by
      refine List.Perm.eq_of_pairwise (fun a b _ _ h1 h2 => Int.le_antisymm h1 h2) m2 ((a6B n).filter _) (m1.trans hcp)
     rw [this]
     exact a1Z (h r (a6T hS1 hr)) ((hS1.newr hr).mk1 a0d)
 ·exact h.elim
noncomputable def a5H (M : MH) (as : List Addr) (ls : List (List Int)) : Prop := as.length = ls.length ∧ ∀ (i : Nat) (a : Addr) (l : List Int), as[i]? = some a → ls[i]? = some l → M a = some (.lst (l.map .int))
noncomputable def Fr (M : MH) (as : List Addr) : Prop := ∀ a ∈ as, M a = none
theorem a5H.sub {M M' : MH} {as : List Addr} {ls : List (List Int)} (h : a5H M as ls) (s : Sub M M') : a5H M' as ls := ⟨h.1, fun i a l h1 h2 => s _ _ (h.2 i a l h1 h2)⟩
theorem a5H.nil {M : MH} : a5H M [] [] := ⟨rfl, fun i a l z => by simp at z⟩
theorem a5H.snoc {M : MH} {as : List Addr} {ls : List (List Int)} {a : Addr} {l : List Int} (h : a5H M as ls) (ha : M a = some (.lst (l.map .int))) : a5H M (as ++ [a]) (ls ++ [l]) := by
 refine ⟨by rw [List.length_append, List.length_append, h.1]; rfl, fun i b k h1 h2 => ?_⟩
 by_cases z : i < as.length
 ·rw [List.getElem?_append_left z] at h1
  rw [List.getElem?_append_left (by rw [← h.1]; exact z)] at h2
  exact h.2 i b k h1 h2
 ·rw [List.getElem?_append_right (by lia)] at h1
  rw [List.getElem?_append_right (by rw [← h.1]; lia), ← h.1] at h2
  obtain ⟨l1, e1⟩ := List.getElem?_eq_some_iff.mp h1
  have e : i - as.length = 0 := by rw [List.length_singleton] at l1; lia
  rw [e] at h1 h2
  obtain rfl := Option.some.inj h1
  obtain rfl := Option.some.inj h2
  exact ha
theorem Fr.snoc {M : MH} {as : List Addr} {a : Addr} (h : Fr M as) (ha : M a = none) : Fr M (as ++ [a]) := fun b hb => by
 rcases List.mem_append.mp hb with z | z
 ·exact h b z
 ·rw [List.mem_singleton.mp z]; exact ha
theorem b6g {n : Int} {w : List Int} (hw : WordOK n w) : IsP n (a0o n w) := by
 refine a3N _ _ ?_ (fun x hx => ?_) (by rw [a2R, a0r]; exact Nat.le_refl _)
 ·rw [a0z n w hw]
  refine List.pairwise_map.mpr ((a1C n).imp_of_mem fun {a b} ha hb ne z => ne ?_)
  have ia := a1i ha
  have ib := a1i hb
  have z2 := a3v w a
  rw [z, a3v w b] at z2
  exact z2.symm
 ·have := a5Z hw hx
  exact a4u this.1 this.2
theorem b2S {o : List Int} {b : Int} : ∀ (f : Nat) (a : Int) (acc c : List Int), cyc o b f a acc = some c → acc.length ≤ c.length
 | 0, _, _, _, h => by cases h
 | f + 1, a, acc, c, h => by
   have h2 : (if a = b then some acc else cyc o b f (gI o a) (acc ++ [a])) = some c := h
   by_cases e : a = b
   ·rw [if_pos e] at h2
    rw [Option.some.inj h2]; exact Nat.le_refl _
   ·rw [if_neg e] at h2
    have := b2S f _ _ _ h2
    rw [List.length_append, List.length_singleton] at this
    lia
theorem b7Y {o : List Int} {n b : Int} (n1 : 1 ≤ n) (n6 : n ≤ 6) (ho : IsP n o) (hb : b ∈ a0h n) : 1 ≤ (pcF o n b).length := by
 obtain ⟨c, h1, h2⟩ := b4X n1 n6 ho hb
 rw [← h2.length_eq]
 exact b2S _ _ _ _ h1
noncomputable def a4c : Sp3 := fun ts M Q => match ts with
 | [.tup [.int n, .tup w]] => ∃ ws : List Int, w = ws.map .int ∧ PlOK n ws ∧ ∀ (r : Addr) (as : List Addr) (M' : MH), M r = none → Sub M M' → M' r = some (.lst (as.map T.adr)) → a5H M' as (pcs (a0o n ws) n) → Fr M as → Q (.adr r) M'
 | _ => False
theorem b1V {P w K base f fd} {mg : Str → Option Value} {n : Nat}  (F : Fun K "pieces" "pieces" a3o f fd) (hm : mg "pieces" = some (.ref f)) (hb : a0V K fd ["plait"] []) (Z : Zs K mg) (D_order_of : Df P w K mg base n "order_of" ["plait"] a2F) (D_piece_from : Df P w K mg base n "piece_from" ["order", "begin"] a1J) : Df P w K mg base (n + 1) "pieces" ["plait"] a4c := by
 refine F.dfn hm hb a5f (by unfold a4c; walk_at "ln") ⟨_, fun cdv A outer s H E hr => (@a0b _ _ _ _ _ (@a0D _ _ _ _ 1 _ _ (@a0m _ _ _ _ _ _ _ _ _ _ D_order_of hr (@a0a _ _ _ _ _ (@hv _ 0 _ _ (by rfl) (by walk_at "3") (by decide) (by decide)) a0e (by rfl)) (by rfl) (by decide) (by rfl) (by rfl)) a5f.nd (by rfl) (by walk_at "2") (by rfl) (by walk_at "4")) (@a0b _ _ _ _ _ (@a0D _ _ _ _ 2 _ _ (@a3G _ _ _ _ _ _ _ _ _ _ _ _ _ _ rfl (@a4q _ _ _ _ _ _ Z.b_range (@a0a _ _ _ _ _ (@a0I _ _ _ _ _ _ _ _ _ a0Q Z.b_len PySem.boot_len (@a0a _ _ _ _ _ (@hv _ 1 _ _ (by rfl) (by walk_at "3") (by decide) (by decide)) a0e (by rfl)) (by rfl) (by decide) (by decide) (by rfl) (by rfl)) a0e (by rfl)) (by rfl) (by rfl)) (@a1d _ (a0c a3o) _ (["plait", "order", "found"]) (["begin", "order"]) ([none, some 1]) (by decide +kernel) rfl rfl) a3U (fun _ _ _ _ _ => @a1n _ _ 0 _ (show List.Nodup (["begin", "order"] : List Str) by decide +kernel) rfl (Or.inl rfl) (Or.inr rfl)) (fun _ _ _ _ _ => a4J) (fun _ _ _ _ _ => (@a0m _ _ _ _ _ _ _ _ _ _ D_piece_from hr (@a0a _ _ _ _ _ (@hv _ 1 _ _ (by rfl) (by walk_at "3") (by decide) (by decide)) (@a0a _ _ _ _ _ (@hv _ 0 _ _ (by rfl) (by walk_at "3") (by decide) (by decide)) a0e (by rfl)) (by rfl)) (by rfl) (by decide) (by rfl) (by rfl))) (by intro _; rfl)) a5f.nd (by rfl) (by walk_at "2") (by rfl) (by walk_at "4")) (@a0j _ _ _ (@a0U _ _ _ _ (@a3G _ _ _ _ _ _ _ _ _ _ _ _ _ _ rfl (@a4q _ _ _ _ _ _ Z.b_range (@a0a _ _ _ _ _ (@a0I _ _ _ _ _ _ _ _ _ a0Q Z.b_len PySem.boot_len (@a0a _ _ _ _ _ (@hv _ 1 _ _ (by rfl) (by walk_at "3") (by decide) (by decide)) a0e (by rfl)) (by rfl) (by decide) (by decide) (by rfl) (by rfl)) a0e (by rfl)) (by rfl) (by rfl)) (@a1d _ (a0c a3o) _ (["plait", "order", "found"]) (["place", "found"]) ([none, some 2]) (by decide +kernel) rfl rfl) a3U (fun _ _ _ _ _ => @a1n _ _ 0 _ (show List.Nodup (["place", "found"] : List Str) by decide +kernel) rfl (Or.inl rfl) (Or.inr rfl)) (fun _ _ _ _ _ => b4z (@a1D _ _ _ _ _ _ _ _ (@a6b _ hr.units) (@h_ix _ _ _ _ _ _ (@h_ix _ _ _ _ _ _ (@hv _ 1 _ _ (by rfl) (by walk_at "3") (by decide) (by decide)) (@hv _ 0 _ _ (by rfl) (by walk_at "3") (by decide) (by decide)) (by intro _ _; rfl)) a0f (by intro _ _; rfl)) (@hv _ 0 _ _ (by rfl) (by walk_at "3") (by decide) (by decide)) (@a1r _ _ (by decide) (by decide)))) (fun _ _ _ _ _ => (@h_ix _ _ _ _ _ _ (@hv _ 1 _ _ (by rfl) (by walk_at "3") (by decide) (by decide)) (@hv _ 0 _ _ (by rfl) (by walk_at "3") (by decide) (by decide)) (by intro _ _; rfl))) (by intro _; rfl)))))), fun ts M Q h => ?_⟩
 unfold a4c at h
 split at h
 ·rename_i n w
  obtain ⟨ws, rfl, ok, h⟩ := h
  obtain ⟨n1, n6, hl, hw⟩ := id ok
  refine a9t fun K1 hK1 => ?_
  walk_at "rd"
  have ho := b6g (n := n) hw
  have hol : (a0o n ws).length = n.toNat := a2R n ws
  refine ⟨ws, rfl, ok, ?_⟩
  dsimp only
  generalize a0o n ws = os at ho hol h ⊢
  rw [List.length_map, hol, show ((n.toNat : Nat) : Int).toNat = n.toNat by lia, a4j]
  have hrl : (a0h n).length = n.toNat := a0r n
  refine ⟨by lia, by lia, fun i ys M' => ∃ as : List Addr, ys = as.map T.adr ∧ a5H M' as (((a0h n).take i).map (pcF os n)) ∧ Fr M as ∧ Sub M M', ⟨[], rfl, .nil, fun _ z => absurd z List.not_mem_nil, Sub.refl⟩, fun _ _ _ _ => trivial, by rw [List.length_map, hrl]; exact a0J (by lia), ?_, ?_⟩
  ·rintro i x ys M' hx ⟨as, rfl, hL, hF, hS⟩
   obtain ⟨b, hb, rfl⟩ := a0O hx
   refine ⟨os, n, rfl, n1, by lia, ho, List.mem_of_getElem? hb, fun r hr => ?_⟩
   refine ⟨as ++ [r], by rw [List.map_append]; rfl, ?_, hF.snoc (a6T hS hr), hS.newr hr⟩
   rw [← a0A (pcF os n) hb]
   exact (hL.sub (Sub.new hr)).snoc a0d
  ·rintro ys M' ⟨as, rfl, hL, hF, hS⟩ q hq
   rw [List.length_map, List.take_length] at hL
   have hMq : (updM M' q (.lst (as.map T.adr))) q = some (.lst (as.map T.adr)) := a0d
   have hL2 := hL.sub (Sub.new hq (o := .lst (as.map T.adr)))
   have hS2 := hS.newr hq (o := .lst (as.map T.adr))
   generalize updM M' q (.lst (as.map T.adr)) = M1 at hMq hL2 hS2 ⊢
   rw [hK1]; clear hK1
   walk_at "rd"
   have hal : as.length = n.toNat := by rw [hL2.1, List.length_map, hrl]
   rw [hol, show ((n.toNat : Nat) : Int).toNat = n.toNat by lia, a4j]
   refine ⟨by lia, by lia, fun i ys M2 => (∃ bs : List Addr, ys = bs.map T.adr ∧ a5H M1 bs ((((a0h n).take i).filter fun b => decide (gI (pcF os n b) 0 = b)).map (pcF os n)) ∧ Fr M bs) ∧ M2 = M1, ⟨⟨[], rfl, .nil, fun _ z => absurd z List.not_mem_nil⟩, rfl⟩, fun _ _ _ _ => trivial, by rw [List.length_map, hrl]; exact a0J (by lia), ?_, ?_⟩
   ·rintro i x ys M2 hx ⟨⟨bs, rfl, hB, hG⟩, rfl⟩
    obtain ⟨b, hb, rfl⟩ := a0O hx
    have hbm := List.mem_of_getElem? hb
    have hbi : b = (i : Int) ∧ i < n.toNat := by
     have hl := (List.getElem?_eq_some_iff.mp hb).1
     rw [hrl] at hl
     unfold a0h at hb
     rw [List.getElem?_map, List.getElem?_range hl] at hb
     exact ⟨(Option.some.inj hb).symm, hl⟩
    obtain ⟨a, ea⟩ : ∃ a, as[i]? = some a := ⟨_, List.getElem?_eq_getElem (by lia)⟩
    have ha := hL2.2 i a (pcF os n b) ea (by rw [List.getElem?_map, hb]; rfl)
    have aa : atI (as.map T.adr) b = some (.adr a) := by rw [hbi.1]; exact a3W (by rw [List.getElem?_map, ea]; rfl)
    have a0 : atI ((pcF os n b).map T.int) 0 = some (.int (gI (pcF os n b) 0)) := b8H (by decide) (by have := b7Y n1 (by lia) ho hbm; lia)
    dsimp only
    rw [hMq]
    dsimp only
    rw [aa]
    dsimp only
    rw [ha]
    dsimp only
    rw [a0]
    dsimp only
    rw [b2G (fun b => decide (gI (pcF os n b) 0 = b)) hb]
    refine ⟨by rw [a3e], by rw [a3e], by rw [a3x]; decide, ?_⟩
    rw [a7b]
    by_cases z : gI (pcF os n b) 0 = b
    ·rw [decide_eq_true z, if_pos rfl, if_pos rfl, List.map_append]
     exact ⟨⟨bs ++ [a], by rw [List.map_append]; rfl, hB.snoc ha, hG.snoc (hF a (List.mem_of_getElem? ea))⟩, rfl⟩
    ·rw [decide_eq_false z, if_neg (by decide), if_neg (by decide), List.append_nil]
     exact ⟨⟨bs, rfl, hB, hG⟩, rfl⟩
   ·rintro ys M2 ⟨⟨bs, rfl, hB, hG⟩, rfl⟩ r hr
    rw [List.length_map, List.take_length] at hB
    exact a0n (h r bs _ (a6T hS2 hr) (hS2.newr hr) a0d (hB.sub (Sub.new hr)) hG)
 ·exact h.elim
noncomputable def a1V : Sp3 := fun ts M Q => match ts with
 | [.int l] => Q (.int (sgI l)) M
 | _ => False
theorem b0E {P w K base f fd} {mg : Str → Option Value} {n : Nat}  (F : Fun K "sign_of" "sign_of" a4h f fd) (hm : mg "sign_of" = some (.ref f)) (hb : a0V K fd ["letter"] []) (Z : Zs K mg)  : Df P w K mg base (n + 1) "sign_of" ["letter"] a1V := by
 refine F.dfn hm hb b0u (by unfold a1V; walk_at "ln") ⟨_, fun cdv A outer s H E hr => (@a0b _ _ _ _ _ (@s_if _ _ _ _ _ _ _ _ (@a1D _ _ _ _ _ _ _ _ b1T (@hv _ 0 _ _ (by rfl) (by walk_at "3") (by decide) (by decide)) a0f (@a1r _ _ (by decide) (by decide))) (@a0j _ _ _ (@a0U _ _ _ _ (@h_un _ _ _ _ _ _ a1G a0f))) a3b) (@a0j _ _ _ (@a0U _ _ _ _ a0f))), fun ts M Q h => ?_⟩
 unfold a1V at h
 split at h
 ·rename_i l
  unfold sgI at h
  walk_at "rd"
  refine ite2 (fun c => ?_) (fun c => ?_)
  ·rw [if_pos c] at h; exact a0n h
  ·rw [if_neg c] at h; exact a0n h
 ·exact h.elim
noncomputable def a4a : Sp3 := fun ts M Q => match ts with
 | [.tup [.int n, .tup w]] => ∃ ws : List Int, w = ws.map .int ∧ PlOK n ws ∧ ∀ M', Sub M M' → Q (.int ((ws.map sgI).sum)) M'
 | _ => False
theorem b3W {P w K base f fd} {mg : Str → Option Value} {n : Nat}  (F : Fun K "turns" "turns" a5g f fd) (hm : mg "turns" = some (.ref f)) (hb : a0V K fd ["plait"] []) (Z : Zs K mg) (D_looked : Df P w K mg base n "looked" ["plait"] a1W) (D_sign_of : Df P w K mg base n "sign_of" ["letter"] a1V) : Df P w K mg base (n + 1) "turns" ["plait"] a4a := by
 refine F.dfn hm hb b3x (by unfold a4a; walk_at "ln") ⟨_, fun cdv A outer s H E hr => (@a0b _ _ _ _ _ (@a3E _ _ _ _ (@a0m _ _ _ _ _ _ _ _ _ _ D_looked hr (@a0a _ _ _ _ _ (@hv _ 0 _ _ (by rfl) (by walk_at "3") (by decide) (by decide)) a0e (by rfl)) (by rfl) (by decide) (by rfl) (by rfl)) (by rfl)) (@a0j _ _ _ (@a0U _ _ _ _ (@a0I _ _ _ _ _ _ _ _ _ (@a8i _ rfl) Z.b_sum PyProof.Rows.boot_sum (@a0a _ _ _ _ _ (@a3G _ _ _ _ _ _ _ _ _ _ _ _ _ _ rfl (@a4y _ _ _ _ (@h_ix _ _ _ _ _ _ (@hv _ 0 _ _ (by rfl) (by walk_at "3") (by decide) (by decide)) a0f (by intro _ _; rfl))) (@a1d _ (a0c a5g) _ ["plait"] ["letter"] [none] (by decide +kernel) rfl rfl) a3U (fun _ _ _ _ _ => @a1n _ _ 0 _ (show List.Nodup (["letter"] : List Str) by decide +kernel) rfl (Or.inl rfl) (Or.inr rfl)) (fun _ _ _ _ _ => a4J) (fun _ _ _ _ _ => (@a0m _ _ _ _ _ _ _ _ _ _ D_sign_of hr (@a0a _ _ _ _ _ (@hv _ 0 _ _ (by rfl) (by walk_at "3") (by decide) (by decide)) a0e (by rfl)) (by rfl) (by decide) (by rfl) (by rfl))) (by intro _; rfl)) a0e (by rfl)) (by rfl) (by decide) (by decide) (by rfl) (by rfl))))), fun ts M Q h => ?_⟩
 unfold a4a at h
 split at h
 ·rename_i n w
  obtain ⟨ws, rfl, ok, h⟩ := h
  walk_at "rd"
  refine ⟨ws, rfl, ok, ?_⟩
  dsimp only
  refine ⟨fun i ys M' => ys = ((ws.take i).map sgI).map T.int ∧ M' = M, ⟨rfl, rfl⟩, fun _ _ _ _ => trivial, a0J (by have := ok.2.2.1; lia), ?_, ?_⟩
  ·rintro i x ys M' hx ⟨rfl, rfl⟩
   obtain ⟨l, hx2, rfl⟩ := a0O hx
   refine ⟨?_, rfl⟩
   rw [← a0A sgI hx2, List.map_append]; rfl
  ·rintro ys M' ⟨rfl, rfl⟩ p hp
   rw [List.take_length, a4p]
   exact a0n (h _ (Sub.new hp))
 ·exact h.elim
noncomputable def a0B : Sp3 := fun ts M Q => match ts with
 | [.adr d] => ∃ m : Po, M d = some (.dk (dkI m)) ∧ (m.map Prod.fst).Nodup ∧ m.length < 64 ∧ Q (poT (norm m)) M
 | _ => False
theorem a4l {P w K base f fd} {mg : Str → Option Value} {n : Nat}  (F : Fun K "without_noughts" "without_noughts" a0K f fd) (hm : mg "without_noughts" = some (.ref f)) (hb : a0V K fd ["counts"] []) (Z : Zs K mg)  : Df P w K mg base (n + 1) "without_noughts" ["counts"] a0B := by
 refine F.dfn hm hb a4e (by unfold a0B; walk_at "ln") ⟨_, fun cdv A outer s H E hr => (@a0j _ _ _ (@a0U _ _ _ _ (@a2u _ _ _ _ _ _ _ _ _ a1v Z.b_tuple PyProof.Rows.boot_tuple (@a0a _ _ _ _ _ (@a3G _ _ _ _ _ _ _ _ _ _ _ _ _ _ rfl (@a4y _ _ _ _ (@a0I _ _ _ _ _ _ _ _ _ (@a7i _ rfl) Z.b_sorted PyProof.Rows.boot_sorted (@a0a _ _ _ _ _ (@hv _ 0 _ _ (by rfl) (by walk_at "3") (by decide) (by decide)) a0e (by rfl)) (by rfl) (by decide) (by decide) (by rfl) (by rfl))) (@a1d _ (a0c a0K) _ ["counts"] (["power", "counts"]) ([none, some 0]) (by decide +kernel) rfl rfl) a3U (fun _ _ _ _ _ => @a1n _ _ 0 _ (show List.Nodup (["power", "counts"] : List Str) by decide +kernel) rfl (Or.inl rfl) (Or.inr rfl)) (fun _ _ _ _ _ => b4z (@a1D _ _ _ _ _ _ _ _ (@a9E _ hr.units) (@b8F _ _ _ _ _ _ hr.units (@hv _ 1 _ _ (by rfl) (by walk_at "3") (by decide) (by decide)) (@hv _ 0 _ _ (by rfl) (by walk_at "3") (by decide) (by decide)) (by intro _ _; rfl)) a0f (@a1r _ _ (by decide) (by decide)))) (fun _ _ _ _ _ => (@a4S _ _ _ _ _ (@a0a _ _ _ _ _ (@hv _ 0 _ _ (by rfl) (by walk_at "3") (by decide) (by decide)) (@a0a _ _ _ _ _ (@b8F _ _ _ _ _ _ hr.units (@hv _ 1 _ _ (by rfl) (by walk_at "3") (by decide) (by decide)) (@hv _ 0 _ _ (by rfl) (by walk_at "3") (by decide) (by decide)) (by intro _ _; rfl)) a0e (by rfl)) (by rfl)))) (by intro _; rfl)) a0e (by rfl)) (by rfl) (by decide) (by decide) (by rfl) (by rfl)))), fun ts M Q h => ?_⟩
 unfold a0B at h
 split at h
 ·rename_i d
  obtain ⟨m, hd, hnd, h64, h⟩ := h
  walk_at "rd"
  rw [hd]
  dsimp only
  refine ⟨m.map Prod.fst, b0b m, by rw [List.length_map]; exact h64, fun ms hp hs r hr => ?_⟩
  have hS := Sub.new hr (o := MO.lst (ms.map T.int))
  have hM1 : (updM M r (MO.lst (ms.map T.int))) r = some (.lst (ms.map T.int)) := a0d
  have hd1 := hS _ _ hd
  generalize updM M r (MO.lst (ms.map T.int)) = M1 at hS hM1 hd1 ⊢
  have hml : ms.length < 64 := by rw [hp.length_eq, List.length_map]; exact h64
  refine ⟨fun i ys M' => ys = ((((ms.take i).filter fun k => decide (co m k ≠ 0)).map fun k => (k, co m k)).map prT) ∧ M' = M1, ⟨rfl, rfl⟩, ?_, a0J (by lia), ?_, ?_⟩
  ·rintro i ys M' ⟨_, rfl⟩
   exact hM1
  ·rintro i x ys M' hx ⟨rfl, rfl⟩
   obtain ⟨k, hx2, rfl⟩ := a0O hx
   have hk : k ∈ m.map Prod.fst := hp.mem_iff.mp (List.mem_of_getElem? hx2)
   have hv := a4I hnd hk
   rw [hd1]
   dsimp only
   refine ⟨.inl k, _, rfl, hv, rfl, by rw [a3x]; decide, ?_⟩
   have ht : ms.take (i + 1) = ms.take i ++ [k] := by rw [List.take_add_one, hx2]; rfl
   rw [a7b, ht, List.filter_append]
   by_cases c : co m k = 0
   ·rw [decide_eq_true c, if_neg (by decide)]
    refine ⟨?_, rfl⟩
    rw [List.filter_cons, if_neg (by simpa using c), List.filter_nil, List.append_nil]
   ·rw [decide_eq_false c, if_pos rfl]
    refine ⟨.inl k, _, rfl, hv, by decide, ?_, rfl⟩
    rw [List.filter_cons, if_pos (by simpa using c), List.filter_nil, List.map_append, List.map_append]; rfl
  ·rintro ys M' ⟨rfl, rfl⟩ q hq
   rw [List.take_length, a8P hnd hp hs]
   exact a1Z h (hS.newr hq)
 ·exact h.elim
theorem a3t {m : Po} {L : List Int} (hn : (m.map Prod.fst).Nodup) (hs : ∀ x ∈ m, x.1 ∈ L) : m.length ≤ L.length := by
 have h1 : (m.map Prod.fst).length ≤ L.length := List.Nodup.length_le_of_subset hn fun k hk => by
  obtain ⟨x, hx, rfl⟩ := List.mem_map.mp hk
  exact hs x hx
 rwa [List.length_map] at h1
theorem a9r {k v : Int} {m : Po} {L : List Int} (hk : k ∈ L) (hs : ∀ x ∈ m, x.1 ∈ L) : ∀ x ∈ setP k v m, x.1 ∈ L := fun x hx => by
 have h1 : x.1 ∈ (setP k v m).map Prod.fst := List.mem_map.mpr ⟨x, hx, rfl⟩
 rw [a5e] at h1
 split at h1
 ·obtain ⟨y, hy, e⟩ := List.mem_map.mp h1
  rw [← e]; exact hs y hy
 ·rcases List.mem_append.mp h1 with z | z
  ·obtain ⟨y, hy, e⟩ := List.mem_map.mp z
   rw [← e]; exact hs y hy
  ·rw [List.mem_singleton.mp z]; exact hk
theorem a9I {p q : Po} (h : ∀ k, co p k = co q k) : norm p = norm q := a3y (a1c p) (a1c q) fun k => by rw [a2d, a2d, h]
noncomputable def a3m : Sp3 := fun ts M Q => match ts with
 | [.tup a, .tup b] => ∃ (p q : Po) (L : List Int), a = p.map prT ∧ b = q.map prT ∧ CanP p ∧ L.length < 64 ∧ (∀ x ∈ p, x.1 ∈ L) ∧ (∀ x ∈ q, x.1 ∈ L) ∧ q.length ≤ 5000 ∧ Q (poT (addP p q)) M
 | _ => False
theorem b3X {P w K base f fd} {mg : Str → Option Value} {n : Nat}  (F : Fun K "added" "added" a6A f fd) (hm : mg "added" = some (.ref f)) (hb : a0V K fd ["one", "other"] []) (Z : Zs K mg) (D_without_noughts : Df P w K mg base n "without_noughts" ["counts"] a0B) : Df P w K mg base (n + 1) "added" ["one", "other"] a3m := by
 refine F.dfn hm hb a4U (by unfold a3m; walk_at "ln") ⟨_, fun cdv A outer s H E hr => (@a0b _ _ _ _ _ (@a0D _ _ _ _ 2 _ _ (@a2u _ _ _ _ _ _ _ _ _ (@a9i _ rfl) Z.b_dict PyProof.Rows.boot_dict (@a0a _ _ _ _ _ (@hv _ 0 _ _ (by rfl) (by walk_at "3") (by decide) (by decide)) a0e (by rfl)) (by rfl) (by decide) (by decide) (by rfl) (by rfl)) a4U.nd (by rfl) (by walk_at "2") (by rfl) (by walk_at "4")) (@a0b _ _ _ _ _ (@a5h _ _ _ _ _ _ _ _ PassesOwn.never rfl (@a4y _ _ _ _ (@hv _ 1 _ _ (by rfl) (by walk_at "3") (by decide) (by decide))) (@b2D _ _ _ _ _ 2 rfl (@a2v _ _ _ _ _ (@a1H _ _ 3 _ a4U.nd (by rfl) (by walk_at "2") (by walk_at "4")) (@a2v _ _ _ _ _ (@a1H _ _ 4 _ a4U.nd (by rfl) (by walk_at "2") (by walk_at "4")) a7W (by rfl)) (by rfl)) (by rfl) (by rfl)) (@a0j _ _ _ (@b3y _ _ _ _ _ _ _ _ _ hr.units (@a0q _ _ _ _ _ _ _ _ a0T (@b4Q _ _ _ _ _ _ _ _ _ hr.units (@hv _ 2 _ _ (by rfl) (by walk_at "3") (by decide) (by decide)) (@hv _ 3 _ _ (by rfl) (by walk_at "3") (by decide) (by decide)) a0f (by rfl) (by rfl) (by rfl) (by rfl)) (@hv _ 4 _ _ (by rfl) (by walk_at "3") (by decide) (by decide))) (@hv _ 2 _ _ (by rfl) (by walk_at "3") (by decide) (by decide)) (@hv _ 3 _ _ (by rfl) (by walk_at "3") (by decide) (by decide)) (by rfl))) (by intro _; rfl)) (@a0j _ _ _ (@a0U _ _ _ _ (@a0m _ _ _ _ _ _ _ _ _ _ D_without_noughts hr (@a0a _ _ _ _ _ (@hv _ 2 _ _ (by rfl) (by walk_at "3") (by decide) (by decide)) a0e (by rfl)) (by rfl) (by decide) (by rfl) (by rfl)))))), fun ts M Q h => ?_⟩
 unfold a3m at h
 split at h
 ·rename_i a b
  obtain ⟨p, q, L, rfl, rfl, hp, hL, hpL, hqL, hql, h⟩ := h
  have hnd0 : (p.map Prod.fst).Nodup := List.pairwise_map.mpr (hp.1.imp fun h z => Int.ne_of_lt h z)
  refine a0i fun K1 hK1 => ?_
  walk_at "rd"
  refine ⟨dkI p, (b4q p).symm, by rw [b0b]; exact List.pairwise_map.mpr (hnd0.imp fun h z => h (Sum.inl.inj z)), fun d hd => ?_⟩
  have hMd : (updM M d (MO.dk (dkI p))) d = some (.dk (dkI p)) := a0d
  have hS := Sub.new hd (o := MO.dk (dkI p))
  generalize updM M d (MO.dk (dkI p)) = M1 at hMd hS ⊢
  rw [hK1]; clear hK1
  refine a0i fun K2 hK2 => ?_
  refine a2w fun B hB => ?_
  unfold a4O
  walk_at "rd"
  refine ⟨fun i ρ M' => (∃ (x3 x4 : Option T), ρ = [some (T.tup (p.map prT)), some (T.tup (q.map prT)), some (T.adr d), x3, x4]) ∧ (∃ m : Po, M' d = some (.dk (dkI m)) ∧ (m.map Prod.fst).Nodup ∧ (∀ x ∈ m, x.1 ∈ L) ∧ ∀ k, co m k = co (p ++ q.take i) k) ∧ Sub M M', ⟨⟨_, _, rfl⟩, ⟨p, hMd, hnd0, hpL, fun k => by rw [List.take_zero, List.append_nil]⟩, hS⟩, fun _ _ _ _ => trivial, ?_, ?_⟩
  ·rintro i x ρ M' hx ⟨⟨x3, x4, rfl⟩, ⟨m, hm, hnd, hmL, hco⟩, hS1⟩
   obtain ⟨⟨y1, y2⟩, hx2, rfl⟩ : ∃ y, q[i]? = some y ∧ prT y = x := by
    rw [List.getElem?_map] at hx
    exact Option.map_eq_some_iff.mp hx
   have hyL := hqL _ (List.mem_of_getElem? hx2)
   unfold prT
   dsimp only
   rw [hB]; clear hB
   walk_at "rd"
   rw [hm]
   refine ⟨trivial, ?_⟩
   dsimp only
   refine ⟨.inl y1, rfl, ?_⟩
   rw [a6p y1 hnd]
   dsimp only
   have hml := a3t hnd hmL
   refine ⟨.inl y1, rfl, a0J (by rw [b2O]; lia), ⟨_, _, rfl⟩, ⟨setP y1 (co m y1 + y2) m, by rw [a6F hnd], a6c hnd, a9r hyL hmL, fun k => ?_⟩, hS1.updF hd⟩
   have ht : q.take (i + 1) = q.take i ++ [(y1, y2)] := by rw [List.take_add_one, hx2]; rfl
   rw [a9g y1 _ hnd, ht, ← List.append_assoc, a1b, ← hco]
   show _ = co m k + ((if y1 = k then y2 else 0) + 0)
   by_cases e : k = y1
   ·rw [if_pos e, if_pos e.symm, e]; lia
   ·rw [if_neg e, if_neg (fun z => e z.symm)]; lia
  ·rintro ρ M' ⟨⟨x3, x4, rfl⟩, ⟨m, hm, hnd, hmL, hco⟩, hS1⟩
   try rw [List.length_map] at hco
   rw [List.take_length] at hco
   rw [hK2]; clear hK2
   walk_at "rd"
   refine ⟨m, hm, hnd, Nat.lt_of_le_of_lt (a3t hnd hmL) hL, ?_⟩
   rw [a9I hco]
   exact a1Z h hS1
 ·exact h.elim
noncomputable def a0C : Sp3 := fun ts M Q => match ts with
 | [.tup a, .tup b] => ∃ (p q : Po) (L : List Int), a = p.map prT ∧ b = q.map prT ∧ L.length < 64 ∧ (∀ x ∈ p, ∀ y ∈ q, x.1 + y.1 ∈ L) ∧ (Sml p ∨ Sml q) ∧ p.length ≤ 5000 ∧ q.length ≤ 5000 ∧ Q (poT (a0Z p q)) M
 | _ => False
theorem b3C {p q : Po} {i : Nat} {x : Int × Int} (h : p[i]? = some x) (k : Int) : co (rawM (p.take (i + 1)) q) k = co (rawM (p.take i) q) k + co (q.map fun b => (x.1 + b.1, x.2 * b.2)) k := by
 rw [List.take_add_one, h]
 unfold rawM
 rw [List.flatMap_append, a1b]
 show _ + co ([x].flatMap fun a => q.map fun b => (a.1 + b.1, a.2 * b.2)) k = _
 rw [List.flatMap_cons, List.flatMap_nil, List.append_nil]
theorem a6O {P w K base f fd} {mg : Str → Option Value} {n : Nat}  (F : Fun K "multiplied" "multiplied" a2n f fd) (hm : mg "multiplied" = some (.ref f)) (hb : a0V K fd ["one", "other"] []) (Z : Zs K mg) (D_without_noughts : Df P w K mg base n "without_noughts" ["counts"] a0B) : Df P w K mg base (n + 1) "multiplied" ["one", "other"] a0C := by
 refine F.dfn hm hb a0M (by unfold a0C; walk_at "ln") ⟨_, fun cdv A outer s H E hr => (@a0b _ _ _ _ _ (@a0D _ _ _ _ 2 _ _ b4R a0M.nd (by rfl) (by walk_at "2") (by rfl) (by walk_at "4")) (@a0b _ _ _ _ _ (@a5h _ _ _ _ _ _ _ _ PassesOwn.never rfl (@a4y _ _ _ _ (@hv _ 0 _ _ (by rfl) (by walk_at "3") (by decide) (by decide))) (@b2D _ _ _ _ _ 2 rfl (@a2v _ _ _ _ _ (@a1H _ _ 3 _ a0M.nd (by rfl) (by walk_at "2") (by walk_at "4")) (@a2v _ _ _ _ _ (@a1H _ _ 4 _ a0M.nd (by rfl) (by walk_at "2") (by walk_at "4")) a7W (by rfl)) (by rfl)) (by rfl) (by rfl)) (@a0j _ _ _ (@a5h _ _ _ _ _ _ _ _ PassesOwn.never rfl (@a4y _ _ _ _ (@hv _ 1 _ _ (by rfl) (by walk_at "3") (by decide) (by decide))) (@b2D _ _ _ _ _ 2 rfl (@a2v _ _ _ _ _ (@a1H _ _ 5 _ a0M.nd (by rfl) (by walk_at "2") (by walk_at "4")) (@a2v _ _ _ _ _ (@a1H _ _ 6 _ a0M.nd (by rfl) (by walk_at "2") (by walk_at "4")) a7W (by rfl)) (by rfl)) (by rfl) (by rfl)) (@a0b _ _ _ _ _ (@a0D _ _ _ _ 7 _ _ (@a0q _ _ _ _ _ _ _ _ a0T (@hv _ 3 _ _ (by rfl) (by walk_at "3") (by decide) (by decide)) (@hv _ 5 _ _ (by rfl) (by walk_at "3") (by decide) (by decide))) a0M.nd (by rfl) (by walk_at "2") (by rfl) (by walk_at "4")) (@a0j _ _ _ (@b3y _ _ _ _ _ _ _ _ _ hr.units (@a0q _ _ _ _ _ _ _ _ a0T (@b4Q _ _ _ _ _ _ _ _ _ hr.units (@hv _ 2 _ _ (by rfl) (by walk_at "3") (by decide) (by decide)) (@hv _ 7 _ _ (by rfl) (by walk_at "3") (by decide) (by decide)) a0f (by rfl) (by rfl) (by rfl) (by rfl)) (@a0q _ _ _ _ _ _ _ _ a0W (@hv _ 4 _ _ (by rfl) (by walk_at "3") (by decide) (by decide)) (@hv _ 6 _ _ (by rfl) (by walk_at "3") (by decide) (by decide)))) (@hv _ 2 _ _ (by rfl) (by walk_at "3") (by decide) (by decide)) (@hv _ 7 _ _ (by rfl) (by walk_at "3") (by decide) (by decide)) (by rfl)))) (by intro _; rfl))) (by intro _; rfl)) (@a0j _ _ _ (@a0U _ _ _ _ (@a0m _ _ _ _ _ _ _ _ _ _ D_without_noughts hr (@a0a _ _ _ _ _ (@hv _ 2 _ _ (by rfl) (by walk_at "3") (by decide) (by decide)) a0e (by rfl)) (by rfl) (by decide) (by rfl) (by rfl)))))), fun ts M Q h => ?_⟩
 unfold a0C at h
 split at h
 ·rename_i a b
  obtain ⟨p, q, L, rfl, rfl, hL, hpq, hsz, hpl, hql, h⟩ := h
  refine a0i fun K1 hK1 => ?_
  walk_at "rd"
  intro d hd
  have hMd : (updM M d (MO.dk [])) d = some (.dk (dkI [])) := a0d
  have hS := Sub.new hd (o := MO.dk [])
  generalize updM M d (MO.dk []) = M1 at hMd hS ⊢
  rw [hK1]; clear hK1
  refine a0i fun K2 hK2 => ?_
  refine a2w fun B hB => ?_
  unfold a4O
  walk_at "rd"
  refine ⟨fun i ρ M' => (∃ (x3 x4 x5 x6 x7 : Option T), ρ = [some (T.tup (p.map prT)), some (T.tup (q.map prT)), some (T.adr d), x3, x4, x5, x6, x7]) ∧ (∃ m : Po, M' d = some (.dk (dkI m)) ∧ (m.map Prod.fst).Nodup ∧ (∀ x ∈ m, x.1 ∈ L) ∧ ∀ k, co m k = co (rawM (p.take i) q) k) ∧ Sub M M', ⟨⟨_, _, _, _, _, rfl⟩, ⟨[], hMd, .nil, fun _ z => absurd z List.not_mem_nil, fun k => rfl⟩, hS⟩, fun _ _ _ _ => trivial, ?_, ?_⟩
  ·rintro i x ρ M' hx ⟨⟨x3, x4, x5, x6, x7, rfl⟩, ⟨m, hm, hnd, hmL, hco⟩, hS1⟩
   obtain ⟨⟨y1, y2⟩, hx2, rfl⟩ : ∃ y, p[i]? = some y ∧ prT y = x := by
    rw [List.getElem?_map] at hx
    exact Option.map_eq_some_iff.mp hx
   have hyp := List.mem_of_getElem? hx2
   rw [show prT (y1, y2) = T.tup [T.int y1, T.int y2] from rfl]
   dsimp only
   refine ⟨rfl, rfl, ?_⟩
   rw [hB]; clear hB
   refine a2w fun B2 hB2 => ?_
   unfold a4O
   walk_at "rd"
   refine ⟨fun j ρ M2 => (∃ (x5 x6 x7 : Option T), ρ = [some (T.tup (p.map prT)), some (T.tup (q.map prT)), some (T.adr d), some (T.int y1), some (T.int y2), x5, x6, x7]) ∧ (∃ m2 : Po, M2 d = some (.dk (dkI m2)) ∧ (m2.map Prod.fst).Nodup ∧ (∀ x ∈ m2, x.1 ∈ L) ∧ ∀ k, co m2 k = co m k + co ((q.take j).map fun b => (y1 + b.1, y2 * b.2)) k) ∧ Sub M M2, ⟨⟨_, _, _, rfl⟩, ⟨m, hm, hnd, hmL, fun k => by show _ = co m k + 0; rw [Int.add_zero]⟩, hS1⟩, fun _ _ _ _ => trivial, ?_, ?_⟩
   ·rintro j z ρ M2 hz ⟨⟨x5, x6, x7, rfl⟩, ⟨m2, hm2, hnd2, hmL2, hco2⟩, hS2⟩
    obtain ⟨⟨z1, z2⟩, hz2, rfl⟩ : ∃ y, q[j]? = some y ∧ prT y = z := by
     rw [List.getElem?_map] at hz
     exact Option.map_eq_some_iff.mp hz
    have hzL := hpq _ hyp _ (List.mem_of_getElem? hz2)
    have hy2 : CMul y2 z2 := by
     rcases hsz with s | s
     ·have := s _ hyp
      exact .inl ⟨by lia, by lia⟩
     ·have := s _ (List.mem_of_getElem? hz2)
      exact .inr ⟨by lia, by lia⟩
    dsimp only at hzL
    rw [show prT (z1, z2) = T.tup [T.int z1, T.int z2] from rfl]
    dsimp only
    refine ⟨rfl, rfl, ?_⟩
    rw [hB2]; clear hB2
    refine a0i fun K5 hK5 => ?_
    walk_at "rd"
    rw [hK5]; clear hK5
    walk_at "rd"
    rw [hm2]
    refine ⟨trivial, ?_⟩
    dsimp only
    refine ⟨.inl (y1 + z1), rfl, hy2, ?_⟩
    rw [a6p (y1 + z1) hnd2]
    dsimp only
    have hml := a3t hnd2 hmL2
    refine ⟨.inl (y1 + z1), rfl, a0J (by rw [b2O]; lia), ⟨_, _, _, rfl⟩, ⟨setP (y1 + z1) (co m2 (y1 + z1) + y2 * z2) m2, by rw [a6F hnd2], a6c hnd2, a9r hzL hmL2, fun k => ?_⟩, hS2.updF hd⟩
    have ht : q.take (j + 1) = q.take j ++ [(z1, z2)] := by rw [List.take_add_one, hz2]; rfl
    rw [a9g (y1 + z1) _ hnd2, ht, List.map_append, a1b, ← Int.add_assoc, ← hco2]
    show _ = co m2 k + ((if y1 + z1 = k then y2 * z2 else 0) + 0)
    by_cases e : k = y1 + z1
    ·rw [if_pos e, if_pos e.symm, e]; lia
    ·rw [if_neg e, if_neg (fun z => e z.symm)]; lia
   ·rintro ρ M2 ⟨⟨x5, x6, x7, rfl⟩, ⟨m2, hm2, hnd2, hmL2, hco2⟩, hS2⟩
    refine ⟨⟨_, _, _, _, _, rfl⟩, ⟨m2, hm2, hnd2, hmL2, fun k => ?_⟩, hS2⟩
    try rw [List.length_map] at hco2
    rw [List.take_length] at hco2
    rw [hco2 k, hco k, b3C hx2]
  ·rintro ρ M' ⟨⟨x3, x4, x5, x6, x7, rfl⟩, ⟨m, hm, hnd, hmL, hco⟩, hS1⟩
   try rw [List.length_map] at hco
   rw [List.take_length] at hco
   rw [hK2]; clear hK2
   walk_at "rd"
   refine ⟨m, hm, hnd, Nat.lt_of_le_of_lt (a3t hnd hmL) hL, ?_⟩
   have e := a9I hco
   rw [e]
   exact a1Z h hS1
 ·exact h.elim
theorem a3f {a b : Nat} {p q : Po} {M : MH} {Q : VK3} (hp : GdE a p) (hq : GdE b q) (hab : a + b ≤ 62) (hB : Sml p ∨ Sml q) (h : Q (poT (a0Z p q)) M) : a0C [poT p, poT q] M Q :=
 ⟨p, q, stpE (a + b), rfl, rfl, by rw [a6u]; lia, fun x hx y hy => a4Z (hp.2.sum hq.2 hx hy), hB, by have := hp.len; lia, by have := hq.len; lia, h⟩
theorem a8p {a : Nat} {p q : Po} {M : MH} {Q : VK3} (hp : GdE a p) (hq : GdE a q) (ha : a ≤ 62) (h : Q (poT (addP p q)) M) : a3m [poT p, poT q] M Q :=
 ⟨p, q, stpE a, rfl, rfl, hp.1, by rw [a6u]; lia, fun x hx => a4Z (hp.2 x hx), fun x hx => a4Z (hq.2 x hx), by have := hq.len; lia, h⟩
theorem b1d {c : TT3} {b : TS3} {D : Ends3} {ρ : En} {M : MH} (h : ∀ B : TS3, B = b → a3a c B D ρ M) : a3a c b D ρ M := h _ rfl
noncomputable def a1x : Sp3 := fun ts M Q => match ts with
 | [.int m] => ∃ k : Nat, m = k ∧ 1 ≤ k ∧ k ≤ 22 ∧ ∀ (r : Addr) (M' : MH), M r = none → Sub M M' → M' r = some (.lst ((lwL k).map poT)) → Q (.adr r) M'
 | _ => False
theorem a5L {P w K base f fd} {mg : Str → Option Value} {n : Nat}  (F : Fun K "loop_worths" "loop_worths" a1R f fd) (hm : mg "loop_worths" = some (.ref f)) (hb : a0V K fd ["most"] []) (Z : Zs K mg) (D_multiplied : Df P w K mg base n "multiplied" ["one", "other"] a0C) : Df P w K mg base (n + 1) "loop_worths" ["most"] a1x := by
 obtain ⟨tk_NOUGHT, c_NOUGHT⟩ := Z.c_NOUGHT
 obtain ⟨tk_ONE, c_ONE⟩ := Z.c_ONE
 obtain ⟨tk_LOOP, c_LOOP⟩ := Z.c_LOOP
 refine F.dfn hm hb a3C (by unfold a1x; walk_at "ln") ⟨_, fun cdv A outer s H E hr => (@a0b _ _ _ _ _ (@a0D _ _ _ _ 1 _ _ (@a7V _ _ _ _ (@a0a _ _ _ _ _ (@a3Q _ _ _ _ _ c_NOUGHT (by rfl) (by decide)) (@a0a _ _ _ _ _ (@a3Q _ _ _ _ _ c_ONE (by rfl) (by decide)) a0e (by rfl)) (by rfl))) a3C.nd (by rfl) (by walk_at "2") (by rfl) (by walk_at "4")) (@a0b _ _ _ _ _ (@a8C _ _ _ _ _ _ PassesOwn.never (@a1D _ _ _ _ _ _ _ _ a9F (@a0I _ _ _ _ _ _ _ _ _ a0Q Z.b_len PySem.boot_len (@a0a _ _ _ _ _ (@hv _ 1 _ _ (by rfl) (by walk_at "3") (by decide) (by decide)) a0e (by rfl)) (by rfl) (by decide) (by decide) (by rfl) (by rfl)) (@hv _ 0 _ _ (by rfl) (by walk_at "3") (by decide) (by decide)) (@a1r _ _ (by decide) (by decide))) (@a0j _ _ _ (@a3E _ _ _ _ (@a4A _ _ _ _ _ _ _ _ (@hv _ 1 _ _ (by rfl) (by walk_at "3") (by decide) (by decide)) (@a0a _ _ _ _ _ (@a0m _ _ _ _ _ _ _ _ _ _ D_multiplied hr (@a0a _ _ _ _ _ (@h_ix _ _ _ _ _ _ (@hv _ 1 _ _ (by rfl) (by walk_at "3") (by decide) (by decide)) (@h_un _ _ _ _ _ _ a1G a0f) (by intro _ _; rfl)) (@a0a _ _ _ _ _ (@a3Q _ _ _ _ _ c_LOOP (by rfl) (by decide)) a0e (by rfl)) (by rfl)) (by rfl) (by decide) (by rfl) (by rfl)) a0e (by rfl)) (by rfl) (by rfl) (by rfl) (by rfl) (by rfl)) (by rfl)))) (@a0j _ _ _ (@a0U _ _ _ _ (@hv _ 1 _ _ (by rfl) (by walk_at "3") (by decide) (by decide)))))), fun ts M Q h => ?_⟩
 unfold a1x at h
 split at h
 ·rename_i m
  obtain ⟨k, rfl, k1, k22, h⟩ := h
  refine a0i fun K1 hK1 => ?_
  walk_at "rd"
  refine ⟨by decide, fun p hp => ?_⟩
  have hMp : (updM M p (MO.lst [T.tup [], T.tup [T.tup [T.int 0, T.int 1]]])) p = some (.lst ((lwL 1).map poT)) := a0d
  have hS := Sub.new hp (o := MO.lst [T.tup [], T.tup [T.tup [T.int 0, T.int 1]]])
  generalize updM M p (MO.lst [T.tup [], T.tup [T.tup [T.int 0, T.int 1]]]) = M1 at hMp hS ⊢
  rw [hK1]; clear hK1
  refine a0i fun K2 hK2 => ?_
  refine b1d fun B hB => ?_
  unfold a3a
  refine ⟨fun i ρ M' => ∃ j : Nat, 1 ≤ j ∧ j ≤ k ∧ i + j = k ∧ ρ = [some (T.int k), some (T.adr p)] ∧ M' p = some (.lst ((lwL j).map poT)) ∧ Sub M M', ⟨k - 1, 1, by lia, k1, by lia, rfl, hMp, hS⟩, ?_⟩
  rintro i ρ M' ⟨j, j1, jk, ij, rfl, hMj, hS1⟩
  walk_at "rd"
  rw [hMj]
  dsimp only
  rw [List.length_map, b2j]
  refine ite2 (fun c => ?_) (fun c => ?_)
  ·have hj : j < k := by lia
   rw [hB]; clear hB
   walk_at "rd"
   rw [hMj]
   dsimp only
   obtain ⟨t, ht⟩ : ∃ t, j = t + 1 := ⟨j - 1, by lia⟩
   have e0 : atI ((lwL j).map poT) (-1) = some (poT (dP t)) := by
    rw [ht, a9M, List.map_append]
    exact b4v _ _
   rw [e0]
   dsimp only
   have hg := a5A t
   refine ⟨trivial, a3f (q := lpP) hg GdE.lp (by lia) (.inr Sml.lp) ?_⟩
   rw [hMj]
   dsimp only
   have e1 : (lwL j).map poT ++ [poT (a0Z (dP t) lpP)] = (lwL (j + 1)).map poT := by rw [a9M, List.map_append, ht]; rfl
   rw [e1]
   exact ⟨a0J (by rw [List.length_map, b2j]; lia), k - (j + 1), by lia, j + 1, by lia, by lia, by lia, rfl, hS1.updF hp⟩
  ·rw [hK2]
   walk_at "rd"
   have e : j = k := by lia
   subst e
   exact a0n (h p M' hp hS1 hMj)
 ·exact h.elim
theorem a5l (a : Int) (m : Nat) : a0P a m = ((List.range m).map fun (k : Nat) => a + k).map T.int := by
 unfold a0P
 rw [List.map_map]; rfl
noncomputable def a1I : Sp3 := fun ts M Q => match ts with
 | [.int n] => ∃ m : Nat, n = m ∧ 1 ≤ m ∧ m ≤ 6 ∧ Q (.dic (nI (plN m)) []) M
 | _ => False
theorem a6M {P w K base f fd} {mg : Str → Option Value} {n : Nat}  (F : Fun K "plain_nest" "plain_nest" a2l f fd) (hm : mg "plain_nest" = some (.ref f)) (hb : a0V K fd ["strands"] []) (Z : Zs K mg)  : Df P w K mg base (n + 1) "plain_nest" ["strands"] a1I := by
 refine F.dfn hm hb a6y (by unfold a1I; walk_at "ln") ⟨_, fun cdv A outer s H E hr => (@a0j _ _ _ (@a0U _ _ _ _ (@a0q _ _ _ _ _ _ _ _ b3V (@a8W _ _ _ _ _ _ _ _ Z.b_tuple Z.b_range (@a0a _ _ _ _ _ (@hv _ 0 _ _ (by rfl) (by walk_at "3") (by decide) (by decide)) (@a0a _ _ _ _ _ (@a0q _ _ _ _ _ _ _ _ a0W a0f (@hv _ 0 _ _ (by rfl) (by walk_at "3") (by decide) (by decide))) a0e (by rfl)) (by rfl)) (by rfl) (by rfl) (by rfl) (by rfl) (by rfl) (by rfl)) (@a5v _ _ _ _ _ _ _ Z.b_tuple Z.b_range (@a0a _ _ _ _ _ (@hv _ 0 _ _ (by rfl) (by walk_at "3") (by decide) (by decide)) a0e (by rfl)) (by rfl) (by rfl) (by rfl) (by rfl) (by rfl))))), fun ts M Q h => ?_⟩
 unfold a1I at h
 split at h
 ·rename_i n
  obtain ⟨m, rfl, m1, m6, h⟩ := h
  walk_at "rd"
  rw [show (2 * (m : Int) - (m : Int)).toNat = m by lia, show ((m : Nat) : Int).toNat = m by lia]
  refine ⟨.inl ⟨by lia, by lia⟩, by lia, by lia, _, _, a5l _ m, a5l 0 m, ?_, ?_, ?_, ?_⟩
  ·intro z
   have := congrArg List.length z
   rw [List.length_map, List.length_range, List.length_nil] at this
   lia
  ·intro z
   have := congrArg List.length z
   rw [List.length_map, List.length_range, List.length_nil] at this
   lia
  ·rw [List.length_map, List.length_map, List.length_range]
   exact a5r (by lia)
  ·have e : ((List.range m).map fun (k : Nat) => (m : Int) + k) ++ ((List.range m).map fun (k : Nat) => (0 : Int) + k) = nI (plN m) := by
    unfold nI plN
    rw [List.map_append, List.map_map]
    congr 1
    ·refine List.map_congr_left fun k _ => ?_
     show (m : Int) + k = ((k + m : Nat) : Int)
     lia
    ·refine List.map_congr_left fun k _ => ?_
     lia
   rw [e]
   exact a0n h
 ·exact h.elim
theorem a9K (N : Nst) : (nI N).length = N.length := List.length_map ..
theorem b2c {N : Nst} {k : Nat} (h : k < N.length) : atI ((nI N).map T.int) (k : Int) = some (.int (gN N k : Nat)) := by
 refine a3W ?_
 unfold nI gN
 rw [List.getElem?_map, List.getElem?_map, List.getElem?_eq_getElem h, List.getD_eq_getElem?_getD, List.getElem?_eq_getElem h]; rfl
noncomputable def a1K : Sp3 := fun ts M Q => match ts with
 | [.dic ks _, .int l] => ∃ (m i : Nat) (N : Nst), ks = nI N ∧ l = i ∧ Cm m ∧ N ∈ nsts m ∧ 1 ≤ i ∧ i < m ∧ Q (.bl (mlN N i)) M
 | _ => False
theorem a6P {P w K base f fd} {mg : Str → Option Value} {n : Nat}  (F : Fun K "makes_loop" "makes_loop" a2o f fd) (hm : mg "makes_loop" = some (.ref f)) (hb : a0V K fd ["nest", "number"] []) (Z : Zs K mg)  : Df P w K mg base (n + 1) "makes_loop" ["nest", "number"] a1K := by
 refine F.dfn hm hb a4f (by unfold a1K; walk_at "ln") ⟨_, fun cdv A outer s H E hr => (@a0b _ _ _ _ _ (@a0D _ _ _ _ 2 _ _ (@a0q _ _ _ _ _ _ _ _ a0T (@a0q _ _ _ _ _ _ _ _ a3O (@a0I _ _ _ _ _ _ _ _ _ a0Q Z.b_len PySem.boot_len (@a0a _ _ _ _ _ (a2Z (@hv _ 0 _ _ (by rfl) (by walk_at "3") (by decide) (by decide))) a0e (by rfl)) (by rfl) (by decide) (by decide) (by rfl) (by rfl)) a0f) (@hv _ 1 _ _ (by rfl) (by walk_at "3") (by decide) (by decide))) a4f.nd (by rfl) (by walk_at "2") (by rfl) (by walk_at "4")) (@a0j _ _ _ (@a0U _ _ _ _ (@b6A _ _ _ _ _ _ _ _ (@a6b _ hr.units) (@h_ix _ _ _ _ _ _ (a2Z (@hv _ 0 _ _ (by rfl) (by walk_at "3") (by decide) (by decide))) (@hv _ 2 _ _ (by rfl) (by walk_at "3") (by decide) (by decide)) (by intro _ _; rfl)) (@a0q _ _ _ _ _ _ _ _ a2a (@hv _ 2 _ _ (by rfl) (by walk_at "3") (by decide) (by decide)) a0f) (@a1r _ _ (by decide) (by decide)))))), fun ts M Q h => ?_⟩
 unfold a1K at h
 split at h
 ·rename_i ks e l
  obtain ⟨m, i, N, rfl, rfl, hm, hN, i1, im, h⟩ := h
  refine a0i fun K1 hK1 => ?_
  walk_at "rd"
  have hl := (a5q hm hN).1
  have hm6 := hm.2
  have em : ((nI N).length : Int) / 2 + (i : Int) = ((m + i : Nat) : Int) := by rw [a9K, hl]; lia
  refine ⟨by unfold b1c; decide, ?_⟩
  rw [em, hK1]; clear hK1
  walk_at "rd"
  rw [b2c (by lia : m + i < N.length)]
  dsimp only
  refine ⟨by first | rw [a3e] | (rw [a3x]; decide), by first | rw [a3e] | (rw [a3x]; decide), ?_⟩
  rw [a7b]
  have e : decide (((gN N (m + i) : Nat) : Int) = ((m + i : Nat) : Int) - 1) = mlN N i := by
   unfold mlN
   rw [show N.length / 2 = m by lia]
   by_cases c : gN N (m + i) = m + i - 1
   ·rw [decide_eq_true (by lia), beq_iff_eq.mpr c]
   ·rw [decide_eq_false (by lia)]
    exact (beq_eq_false_iff_ne.mpr c).symm
  rw [e]
  exact a0n h
 ·exact h.elim
noncomputable def a2h : Sp3 := fun ts M Q => match ts with
 | [.dic ks _, .int l] => ∃ (m i : Nat) (N : Nst), ks = nI N ∧ l = i ∧ Cm m ∧ N ∈ nsts m ∧ 1 ≤ i ∧ i < m ∧ ∀ M', Sub M M' → Q (.dic (nI (hkN N i)) []) M'
 | _ => False
theorem a7C {P w K base f fd} {mg : Str → Option Value} {n : Nat}  (F : Fun K "with_hook" "with_hook" a2K f fd) (hm : mg "with_hook" = some (.ref f)) (hb : a0V K fd ["nest", "number"] []) (Z : Zs K mg)  : Df P w K mg base (n + 1) "with_hook" ["nest", "number"] a2h := by
 refine F.dfn hm hb a3c (by unfold a2h; walk_at "ln") ⟨_, fun cdv A outer s H E hr => (@a0b _ _ _ _ _ (@a0D _ _ _ _ 2 _ _ (@a0q _ _ _ _ _ _ _ _ a0T (@a0q _ _ _ _ _ _ _ _ a3O (@a0I _ _ _ _ _ _ _ _ _ a0Q Z.b_len PySem.boot_len (@a0a _ _ _ _ _ (a2Z (@hv _ 0 _ _ (by rfl) (by walk_at "3") (by decide) (by decide))) a0e (by rfl)) (by rfl) (by decide) (by decide) (by rfl) (by rfl)) a0f) (@hv _ 1 _ _ (by rfl) (by walk_at "3") (by decide) (by decide))) a3c.nd (by rfl) (by walk_at "2") (by rfl) (by walk_at "4")) (@a0b _ _ _ _ _ (@a0D _ _ _ _ 3 _ _ (@a2u _ _ _ _ _ _ _ _ _ b0Z Z.b_list PyProof.Rows.boot_list (@a0a _ _ _ _ _ (a2Z (@hv _ 0 _ _ (by rfl) (by walk_at "3") (by decide) (by decide))) a0e (by rfl)) (by rfl) (by decide) (by decide) (by rfl) (by rfl)) a3c.nd (by rfl) (by walk_at "2") (by rfl) (by walk_at "4")) (@a0b _ _ _ _ _ (@a7w _ _ _ _ _ _ (@h_ix _ _ _ _ _ _ (a2Z (@hv _ 0 _ _ (by rfl) (by walk_at "3") (by decide) (by decide))) (@hv _ 2 _ _ (by rfl) (by walk_at "3") (by decide) (by decide)) (by intro _ _; rfl)) (@a7X _ _ _ _ _ _ (@hv _ 3 _ _ (by rfl) (by walk_at "3") (by decide) (by decide)) (@h_ix _ _ _ _ _ _ (a2Z (@hv _ 0 _ _ (by rfl) (by walk_at "3") (by decide) (by decide))) (@a0q _ _ _ _ _ _ _ _ a2a (@hv _ 2 _ _ (by rfl) (by walk_at "3") (by decide) (by decide)) a0f) (by intro _ _; rfl)) (by intro _; rfl)) (by rfl) (by rfl) (by rfl)) (@a0b _ _ _ _ _ (@a7w _ _ _ _ _ _ (@h_ix _ _ _ _ _ _ (a2Z (@hv _ 0 _ _ (by rfl) (by walk_at "3") (by decide) (by decide))) (@a0q _ _ _ _ _ _ _ _ a2a (@hv _ 2 _ _ (by rfl) (by walk_at "3") (by decide) (by decide)) a0f) (by intro _ _; rfl)) (@a7X _ _ _ _ _ _ (@hv _ 3 _ _ (by rfl) (by walk_at "3") (by decide) (by decide)) (@h_ix _ _ _ _ _ _ (a2Z (@hv _ 0 _ _ (by rfl) (by walk_at "3") (by decide) (by decide))) (@hv _ 2 _ _ (by rfl) (by walk_at "3") (by decide) (by decide)) (by intro _ _; rfl)) (by intro _; rfl)) (by rfl) (by rfl) (by rfl)) (@a0b _ _ _ _ _ (@a7w _ _ _ _ _ _ (@hv _ 2 _ _ (by rfl) (by walk_at "3") (by decide) (by decide)) (@a7X _ _ _ _ _ _ (@hv _ 3 _ _ (by rfl) (by walk_at "3") (by decide) (by decide)) (@a0q _ _ _ _ _ _ _ _ a2a (@hv _ 2 _ _ (by rfl) (by walk_at "3") (by decide) (by decide)) a0f) (by intro _; rfl)) (by rfl) (by rfl) (by rfl)) (@a0b _ _ _ _ _ (@a7w _ _ _ _ _ _ (@a0q _ _ _ _ _ _ _ _ a2a (@hv _ 2 _ _ (by rfl) (by walk_at "3") (by decide) (by decide)) a0f) (@a7X _ _ _ _ _ _ (@hv _ 3 _ _ (by rfl) (by walk_at "3") (by decide) (by decide)) (@hv _ 2 _ _ (by rfl) (by walk_at "3") (by decide) (by decide)) (by intro _; rfl)) (by rfl) (by rfl) (by rfl)) (@a0j _ _ _ (@a0U _ _ _ _ (@a2u _ _ _ _ _ _ _ _ _ b0Y Z.b_tuple PyProof.Rows.boot_tuple (@a0a _ _ _ _ _ (@hv _ 3 _ _ (by rfl) (by walk_at "3") (by decide) (by decide)) a0e (by rfl)) (by rfl) (by decide) (by decide) (by rfl) (by rfl)))))))))), fun ts M Q h => ?_⟩
 unfold a2h at h
 split at h
 ·rename_i ks e l
  obtain ⟨m, i, N, rfl, rfl, hm, hN, i1, im, h⟩ := h
  refine a0i fun K1 hK1 => ?_
  walk_at "rd"
  have hl := (a5q hm hN).1
  have hlt := (a5q hm hN).2.1
  have hm6 := hm.2
  have em : ((nI N).length : Int) / 2 + (i : Int) = ((m + i : Nat) : Int) := by rw [a9K, hl]; lia
  refine ⟨by unfold b1c; decide, ?_⟩
  rw [em, hK1]; clear hK1
  refine a0i fun K2 hK2 => ?_
  walk_at "rd"
  intro p hp
  have hnat : (nI N).map T.int = natT N := rfl
  have la : gN N (m + i - 1) < 2 * m := (b2b hm hN (by lia)).1
  have lc : gN N (m + i) < 2 * m := (b2b hm hN (by lia)).1
  have ga : atI ((nI N).map T.int) (((m + i : Nat) : Int) - 1) = some (.int (gN N (m + i - 1) : Nat)) := by
   rw [show ((m + i : Nat) : Int) - 1 = ((m + i - 1 : Nat) : Int) by lia]
   exact b2c (by lia)
  have gc : atI ((nI N).map T.int) ((m + i : Nat) : Int) = some (.int (gN N (m + i) : Nat)) := b2c (by lia)
  have hMp : (updM M p (MO.lst ((nI N).map T.int))) p = some (.lst (natT N)) := a0d
  have hS := Sub.new hp (o := MO.lst ((nI N).map T.int))
  generalize updM M p (MO.lst ((nI N).map T.int)) = M1 at hMp hS ⊢
  rw [hK2]; clear hK2
  refine a0i fun K3 hK3 => ?_
  walk_at "rd"
  rw [gc]
  dsimp only
  rw [ga]
  dsimp only
  have stp : ∀ (M2 : MH) (L : Nst) (j x : Nat) (K : En → MH → Prop), Sub M M2 → M2 p = some (.lst (natT L)) → j < L.length → (∀ M3, Sub M M3 → M3 p = some (.lst (natT (L.set j x))) → K [some (T.dic (nI N) e), some (T.int (i : Nat)), some (T.int ((m + i : Nat) : Int)), some (T.adr p)] M3) →
    (match M2 p with
     | some (MO.lst ts) => (match ixN ts.length ((j : Nat) : Int) with
       | some j => K [some (T.dic (nI N) e), some (T.int (i : Nat)), some (T.int ((m + i : Nat) : Int)), some (T.adr p)] (updM M2 p (MO.lst (ts.set j (T.int (x : Nat)))))
       | none => False)
     | x => False) := fun M2 L j x K hS2 h2 hj k => by
   rw [h2]
   dsimp only
   rw [b6s (by lia) (by rw [b4a]; lia)]
   dsimp only
   rw [show ((j : Nat) : Int).toNat = j by lia, b3Z]
   exact k _ (hS2.updF hp) a0d
  refine stp M1 N _ _ K3 hS hMp (by lia) fun M2 hS2 h2 => ?_
  rw [hK3]; clear hK3 hS hMp
  refine a0i fun K4 hK4 => ?_
  walk_at "rd"
  rw [ga]
  dsimp only
  rw [gc]
  dsimp only
  refine stp M2 _ _ _ K4 hS2 h2 (by rw [List.length_set]; lia) fun M3 hS3 h3 => ?_
  rw [hK4]; clear hK4 hS2 h2
  refine a0i fun K5 hK5 => ?_
  walk_at "rd"
  rw [show ((m + i : Nat) : Int) - 1 = ((m + i - 1 : Nat) : Int) by lia]
  refine stp M3 _ _ _ K5 hS3 h3 (by rw [List.length_set, List.length_set]; lia) fun M4 hS4 h4 => ?_
  rw [hK5]; clear hK5 hS3 h3
  refine a0i fun K6 hK6 => ?_
  walk_at "rd"
  rw [show ((m + i : Nat) : Int) - 1 = ((m + i - 1 : Nat) : Int) by lia]
  refine stp M4 _ _ _ K6 hS4 h4 (by rw [List.length_set, List.length_set, List.length_set]; lia) fun M5 hS5 h5 => ?_
  rw [hK6]; clear hK6 hS4 h4
  walk_at "rd"
  rw [h5]
  refine ⟨nI (hkN N i), ?_, a0n (h M5 hS5)⟩
  unfold hkN
  rw [show N.length / 2 = m by lia]; rfl
 ·exact h.elim
noncomputable def a4b : Sp3 := fun ts M Q => match ts with
 | [.adr d, .dic ks _, .tup p] => ∃ (m c : Nat) (D : DN) (N : Nst) (q : Po), M d = some (.dt (dtN D)) ∧ ks = nI N ∧ p = q.map prT ∧ N ∈ nsts m ∧ DOK m c D ∧ GdE c q ∧ c ≤ 62 ∧ Q .non (updM M d (.dt (dtN (addD D N q))))
 | _ => False
theorem b1U {P w K base f fd} {mg : Str → Option Value} {n : Nat}  (F : Fun K "put_in" "put_in" a4V f fd) (hm : mg "put_in" = some (.ref f)) (hb : a0V K fd ["worths", "nest", "worth"] []) (Z : Zs K mg) (D_added : Df P w K mg base n "added" ["one", "other"] a3m) : Df P w K mg base (n + 1) "put_in" ["worths", "nest", "worth"] a4b := by
 obtain ⟨tk_NOUGHT, c_NOUGHT⟩ := Z.c_NOUGHT
 refine F.dfn hm hb b1C (by unfold a4b; walk_at "ln") ⟨_, fun cdv A outer s H E hr => (@a0j _ _ _ (b9x hr.units (@a0m _ _ _ _ _ _ _ _ _ _ D_added hr (@a0a _ _ _ _ _ (b8D hr.units (@hv _ 0 _ _ (by rfl) (by walk_at "3") (by decide) (by decide)) (@hv _ 1 _ _ (by rfl) (by walk_at "3") (by decide) (by decide)) (@a3Q _ _ _ _ _ c_NOUGHT (by rfl) (by decide))) (@a0a _ _ _ _ _ (@hv _ 2 _ _ (by rfl) (by walk_at "3") (by decide) (by decide)) a0e (by rfl)) (by rfl)) (by rfl) (by decide) (by rfl) (by rfl)) (@hv _ 0 _ _ (by rfl) (by walk_at "3") (by decide) (by decide)) (@hv _ 1 _ _ (by rfl) (by walk_at "3") (by decide) (by decide)))), fun ts M Q h => ?_⟩
 unfold a4b at h
 split at h
 ·rename_i d ks e p
  obtain ⟨m, c, D, N, q, hd, rfl, rfl, hN, hD, hq, hc, h⟩ := h
  walk_at "rd"
  rw [hd]
  refine ⟨trivial, ?_⟩
  dsimp only
  rw [a9o]
  refine a8p (a9N hD.2 N) hq hc ?_
  rw [hd]
  dsimp only
  refine ⟨a0J (by rw [b6E]; have := hD.len; lia), ?_⟩
  rw [a9u hD.1]
  exact a0n h
 ·exact h.elim
noncomputable def a1w : Sp3 := fun ts M Q => match ts with
 | [.adr d, .int l] => ∃ (m b : Nat) (D : DN), M d = some (.dt (dtN D)) ∧ Cm m ∧ LetN m l ∧ DOK m b D ∧ b ≤ 50 ∧ ∀ (r : Addr) (M' : MH), M r = none → (∀ a o, a ≠ d → M a = some o → M' a = some o) → M' r = some (.dt (dtN (wlN l D))) → Q (.adr r) M'
 | _ => False
theorem a5K {P w K base f fd} {mg : Str → Option Value} {n : Nat}  (F : Fun K "with_letter" "with_letter" a1Q f fd) (hm : mg "with_letter" = some (.ref f)) (hb : a0V K fd ["worths", "letter"] []) (Z : Zs K mg) (D_sign_of : Df P w K mg base n "sign_of" ["letter"] a1V) (D_put_in : Df P w K mg base n "put_in" ["worths", "nest", "worth"] a4b) (D_multiplied : Df P w K mg base n "multiplied" ["one", "other"] a0C) (D_makes_loop : Df P w K mg base n "makes_loop" ["nest", "number"] a1K) (D_with_hook : Df P w K mg base n "with_hook" ["nest", "number"] a2h) : Df P w K mg base (n + 1) "with_letter" ["worths", "letter"] a1w := by
 obtain ⟨tk_LOOP, c_LOOP⟩ := Z.c_LOOP
 refine F.dfn hm hb a0S (by unfold a1w; walk_at "ln") ⟨_, fun cdv A outer s H E hr => (@a0b _ _ _ _ _ (@a0D _ _ _ _ 2 _ _ (@a0m _ _ _ _ _ _ _ _ _ _ D_sign_of hr (@a0a _ _ _ _ _ (@hv _ 1 _ _ (by rfl) (by walk_at "3") (by decide) (by decide)) a0e (by rfl)) (by rfl) (by decide) (by rfl) (by rfl)) a0S.nd (by rfl) (by walk_at "2") (by rfl) (by walk_at "4")) (@a0b _ _ _ _ _ (@a0D _ _ _ _ 3 _ _ b8E a0S.nd (by rfl) (by walk_at "2") (by rfl) (by walk_at "4")) (@a0b _ _ _ _ _ (@a5h _ _ _ _ _ _ _ _ PassesOwn.never rfl (b2x (@hv _ 0 _ _ (by rfl) (by walk_at "3") (by decide) (by decide))) (@b2D _ _ _ _ _ 2 rfl (@a2v _ _ _ _ _ (@a1H _ _ 4 _ a0S.nd (by rfl) (by walk_at "2") (by walk_at "4")) (@a2v _ _ _ _ _ (@a1H _ _ 5 _ a0S.nd (by rfl) (by walk_at "2") (by walk_at "4")) a7W (by rfl)) (by rfl)) (by rfl) (by rfl)) (@a0b _ _ _ _ _ (@a3E _ _ _ _ (@a0m _ _ _ _ _ _ _ _ _ _ D_put_in hr (@a0a _ _ _ _ _ (@hv _ 3 _ _ (by rfl) (by walk_at "3") (by decide) (by decide)) (@a0a _ _ _ _ _ (@hv _ 4 _ _ (by rfl) (by walk_at "3") (by decide) (by decide)) (@a0a _ _ _ _ _ (@a0m _ _ _ _ _ _ _ _ _ _ D_multiplied hr (@a0a _ _ _ _ _ (@hv _ 5 _ _ (by rfl) (by walk_at "3") (by decide) (by decide)) (@a4G _ _ _ _ _ _ _ (@a4S _ _ _ _ _ (@a4G _ _ _ _ _ _ _ (@a4S _ _ _ _ _ (@a0a _ _ _ _ _ (@hv _ 2 _ _ (by rfl) (by walk_at "3") (by decide) (by decide)) (@a0a _ _ _ _ _ a0f a0e (by rfl)) (by rfl))) a0e)) a0e) (by rfl)) (by rfl) (by decide) (by rfl) (by rfl)) a0e (by rfl)) (by rfl)) (by rfl)) (by rfl) (by decide) (by rfl) (by rfl)) (by rfl)) (@a0b _ _ _ _ _ (@a0D _ _ _ _ 6 _ _ (@a0m _ _ _ _ _ _ _ _ _ _ D_multiplied hr (@a0a _ _ _ _ _ (@hv _ 5 _ _ (by rfl) (by walk_at "3") (by decide) (by decide)) (@a4G _ _ _ _ _ _ _ (@a4S _ _ _ _ _ (@a4G _ _ _ _ _ _ _ (@a4S _ _ _ _ _ (@a0a _ _ _ _ _ (@h_un _ _ _ _ _ _ a1G (@hv _ 2 _ _ (by rfl) (by walk_at "3") (by decide) (by decide))) (@a0a _ _ _ _ _ a0f a0e (by rfl)) (by rfl))) a0e)) a0e) (by rfl)) (by rfl) (by decide) (by rfl) (by rfl)) a0S.nd (by rfl) (by walk_at "2") (by rfl) (by walk_at "4")) (@a0j _ _ _ (@s_if _ _ _ _ _ _ _ _ (@a4z _ _ _ (@a0m _ _ _ _ _ _ _ _ _ _ D_makes_loop hr (@a0a _ _ _ _ _ (@hv _ 4 _ _ (by rfl) (by walk_at "3") (by decide) (by decide)) (@a0a _ _ _ _ _ (@a0I _ _ _ _ _ _ _ _ _ a4r Z.b_abs PyProof.Rows.boot_abs (@a0a _ _ _ _ _ (@hv _ 1 _ _ (by rfl) (by walk_at "3") (by decide) (by decide)) a0e (by rfl)) (by rfl) (by decide) (by decide) (by rfl) (by rfl)) a0e (by rfl)) (by rfl)) (by rfl) (by decide) (by rfl) (by rfl)) (by intro _; rfl)) (@a0j _ _ _ (@a3E _ _ _ _ (@a0m _ _ _ _ _ _ _ _ _ _ D_put_in hr (@a0a _ _ _ _ _ (@hv _ 3 _ _ (by rfl) (by walk_at "3") (by decide) (by decide)) (@a0a _ _ _ _ _ (@hv _ 4 _ _ (by rfl) (by walk_at "3") (by decide) (by decide)) (@a0a _ _ _ _ _ (@a0m _ _ _ _ _ _ _ _ _ _ D_multiplied hr (@a0a _ _ _ _ _ (@hv _ 6 _ _ (by rfl) (by walk_at "3") (by decide) (by decide)) (@a0a _ _ _ _ _ (@a3Q _ _ _ _ _ c_LOOP (by rfl) (by decide)) a0e (by rfl)) (by rfl)) (by rfl) (by decide) (by rfl) (by rfl)) a0e (by rfl)) (by rfl)) (by rfl)) (by rfl) (by decide) (by rfl) (by rfl)) (by rfl))) (@a0j _ _ _ (@a3E _ _ _ _ (@a0m _ _ _ _ _ _ _ _ _ _ D_put_in hr (@a0a _ _ _ _ _ (@hv _ 3 _ _ (by rfl) (by walk_at "3") (by decide) (by decide)) (@a0a _ _ _ _ _ (@a0m _ _ _ _ _ _ _ _ _ _ D_with_hook hr (@a0a _ _ _ _ _ (@hv _ 4 _ _ (by rfl) (by walk_at "3") (by decide) (by decide)) (@a0a _ _ _ _ _ (@a0I _ _ _ _ _ _ _ _ _ a4r Z.b_abs PyProof.Rows.boot_abs (@a0a _ _ _ _ _ (@hv _ 1 _ _ (by rfl) (by walk_at "3") (by decide) (by decide)) a0e (by rfl)) (by rfl) (by decide) (by decide) (by rfl) (by rfl)) a0e (by rfl)) (by rfl)) (by rfl) (by decide) (by rfl) (by rfl)) (@a0a _ _ _ _ _ (@hv _ 6 _ _ (by rfl) (by walk_at "3") (by decide) (by decide)) a0e (by rfl)) (by rfl)) (by rfl)) (by rfl) (by decide) (by rfl) (by rfl)) (by rfl))))))) (by intro _; rfl)) (@a0j _ _ _ (@a0U _ _ _ _ (@hv _ 3 _ _ (by rfl) (by walk_at "3") (by decide) (by decide))))))), fun ts M Q h => ?_⟩
 unfold a1w at h
 split at h
 ·rename_i d l
  obtain ⟨m, b, D, hd, hm, hl, hD, hb, h⟩ := h
  refine a0i fun K1 hK1 => ?_
  walk_at "rd"
  unfold a1V
  dsimp only
  rw [hK1]; clear hK1
  refine a0i fun K2 hK2 => ?_
  walk_at "rd"
  intro p hp
  have hdp : d ≠ p := fun z => by rw [z, hp] at hd; cases hd
  have hMp : (updM M p (MO.dt [])) p = some (.dt (dtN [])) := a0d
  have hS := Sub.new hp (o := MO.dt [])
  have hd1 := hS _ _ hd
  generalize updM M p (MO.dt []) = M1 at hMp hS hd1 ⊢
  rw [hK2]; clear hK2
  refine a0i fun K3 hK3 => ?_
  refine a2w fun B hB => ?_
  unfold a4O
  walk_at "rd"
  rw [hd1]
  dsimp only
  refine ⟨_, b2M D, ?_⟩
  have hkeep : ∀ a o, a ≠ d → M a = some o → (updM M1 d (MO.fz (dtN D))) a = some o := fun a o ha ho => by rw [a0x ha]; exact hS _ _ ho
  have hMp2 : (updM M1 d (MO.fz (dtN D))) p = some (.dt (dtN [])) := by rw [a0x hdp.symm]; exact hMp
  generalize updM M1 d (MO.fz (dtN D)) = M2 at hkeep hMp2 ⊢
  clear hMp hS hd1
  refine ⟨fun i ρ M' => (∃ (x4 x5 x6 : Option T), ρ = [some (T.adr d), some (T.int l), some (T.int (sgI l)), some (T.adr p), x4, x5, x6]) ∧ M' p = some (.dt (dtN ((D.take i).foldl (wl1N l) []))) ∧ (∀ a o, a ≠ d → M a = some o → M' a = some o), ⟨⟨_, _, _, rfl⟩, hMp2, hkeep⟩, fun _ _ _ _ => trivial, ?_, ?_⟩
  ·rintro i x ρ M' hx ⟨⟨x4, x5, x6, rfl⟩, hMp, hk⟩
   obtain ⟨⟨N, q⟩, hdi, rfl⟩ : ∃ y, D[i]? = some y ∧ x = T.tup [T.dic (nI y.1) [], poT y.2] := by
    unfold prTs at hx
    rw [List.map_map, List.getElem?_map] at hx
    obtain ⟨y, h1, h2⟩ := Option.map_eq_some_iff.mp hx
    exact ⟨y, h1, h2.symm⟩
   obtain ⟨hN, hq⟩ := hD.2 _ (List.mem_of_getElem? hdi)
   dsimp only at hN hq
   have hsg : sgI l = 1 ∨ sgI l = -1 := by unfold sgI; split <;> simp
   have hE : DOK m (b + 3) ((D.take i).foldl (wl1N l) []) := DOK.foldl hm hl _ _ (DOK.nil m _) fun y hy => hD.2 y (List.mem_of_mem_take hy)
   have hE2 : (D.take (i + 1)).foldl (wl1N l) [] = wl1N l ((D.take i).foldl (wl1N l) []) (N, q) := by
    rw [List.take_add_one, hdi, List.foldl_append]; rfl
   generalize (D.take i).foldl (wl1N l) [] = E at hMp hE hE2
   have g1 := (hq.mul (GdE.mono1 hsg)).up 1 (c := b + 3) (by lia)
   have g2 := hq.mul (GdE.mono1 (s := -sgI l) (by lia))
   dsimp only
   refine ⟨rfl, rfl, ?_⟩
   rw [hB]; clear hB
   refine a0i fun K4 hK4 => ?_
   walk_at "rd"
   refine ⟨by decide, by decide, a3f (q := [(sgI l, 1)]) hq (GdE.mono1 hsg) (by lia) (.inr (Sml.one1 _)) ?_⟩
   refine ⟨m, b + 3, E, N, _, hMp, rfl, rfl, hN, hE, g1, by lia, ?_⟩
   have hMp3 : (updM M' p (.dt (dtN (addD E N (a0Z q [(sgI l, 1)]))))) p = some (.dt (dtN (addD E N (a0Z q [(sgI l, 1)])))) := a0d
   have hk3 : ∀ a o, a ≠ d → M a = some o → (updM M' p (.dt (dtN (addD E N (a0Z q [(sgI l, 1)]))))) a = some o := fun a o ha ho => by
    rw [a0x (fun z => by rw [z, hp] at ho; cases ho)]; exact hk a o ha ho
   have hE3 := hE.add hN g1
   have ew : wl1N l E (N, q) = (if mlN N l.natAbs then addD (addD E N (a0Z q [(sgI l, 1)])) N (a0Z (a0Z q [(-sgI l, 1)]) lpP) else addD (addD E N (a0Z q [(sgI l, 1)])) (hkN N l.natAbs) (a0Z q [(-sgI l, 1)])) := rfl
   rw [ew] at hE2
   clear ew
   generalize addD E N (a0Z q [(sgI l, 1)]) = E2 at hMp3 hk3 hE3 hE2 ⊢
   generalize updM M' p (.dt (dtN E2)) = M3 at hMp3 hk3 ⊢
   clear hMp hk hE
   show K4 _ _
   rw [hK4]; clear hK4
   refine a0i fun K5 hK5 => ?_
   walk_at "rd"
   refine ⟨by decide, by decide, a3f (q := [(-sgI l, 1)]) hq (GdE.mono1 (by lia)) (by lia) (.inr (Sml.one1 _)) ?_⟩
   show K5 _ _
   rw [hK5]; clear hK5
   walk_at "rd"
   refine ⟨m, l.natAbs, N, rfl, rfl, hm, hN, hl.1, hl.2, ?_⟩
   dsimp only
   have fin : ∀ (E3 : DN) (M4 : MH), (D.take (i + 1)).foldl (wl1N l) [] = E3 → (∀ a o, a ≠ d → M a = some o → M4 a = some o) → (∃ x4 x5 x6, ([some (T.adr d), some (T.int l), some (T.int (sgI l)), some (T.adr p), some (T.dic (nI N) []), some (poT q), some (poT (a0Z q [(-sgI l, 1)]))] : En) = [some (T.adr d), some (T.int l), some (T.int (sgI l)), some (T.adr p), x4, x5, x6]) ∧ (updM M4 p (.dt (dtN E3))) p = some (MO.dt (dtN (List.foldl (wl1N l) [] (List.take (i + 1) D)))) ∧ ∀ (a : Addr) (o : MO), a ≠ d → M a = some o → (updM M4 p (.dt (dtN E3))) a = some o := fun E3 M4 e hk4 => by
    refine ⟨⟨_, _, _, rfl⟩, by rw [e]; exact a0d, fun a o ha ho => ?_⟩
    rw [a0x (fun z => by rw [z, hp] at ho; cases ho)]; exact hk4 a o ha ho
   by_cases c : mlN N l.natAbs = true
   ·rw [if_pos c] at hE2 ⊢
    refine a3f (q := lpP) g2 GdE.lp (by lia) (.inr Sml.lp) ?_
    exact ⟨m, b + 3, E2, N, _, hMp3, rfl, rfl, hN, hE3, g2.mul GdE.lp, by lia, fin _ _ hE2 hk3⟩
   ·rw [if_neg c] at hE2 ⊢
    refine ⟨m, l.natAbs, N, rfl, rfl, hm, hN, hl.1, hl.2, fun M4 hS4 => ?_⟩
    have hN2 := ((a5q hm hN).2.2 _ hl.1 hl.2 (by simpa using c)).2
    exact ⟨m, b + 3, E2, _, _, hS4 _ _ hMp3, rfl, rfl, hN2, hE3, g2.up 1 (by lia), by lia, fin _ _ hE2 fun a o ha ho => hS4 _ _ (hk3 a o ha ho)⟩
  ·rintro ρ M' ⟨⟨x4, x5, x6, rfl⟩, hMp, hk⟩
   rw [hK3]
   walk_at "rd"
   rw [a3M, List.length_map, List.take_length] at hMp
   exact a0n (h p M' hp hk hMp)
 ·exact h.elim
noncomputable def seK (S : List Nat) : List (Key × T) := List.map (fun (k : Nat) => ((.inl (k : Int) : Key), T.bl true)) S
theorem b1z (S : List Nat) : (seK S).length = S.length := List.length_map ..
theorem b1A (k : Nat) : ∀ S : List Nat, (valT (seK S) (.inl (k : Int))).isSome = S.contains k
 | [] => rfl
 | x :: S => by
   have ih := b1A k S
   show (((((.inl (x : Int) : Key), T.bl true) :: seK S).find? fun kv => decide (kv.1 = .inl (k : Int))).map (·.2)).isSome = _
   rw [List.contains_cons]
   by_cases c : x = k
   ·subst c
    rw [List.find?_cons, decide_eq_true rfl, beq_self_eq_true]; rfl
   ·rw [List.find?_cons, decide_eq_false (show ¬ (Sum.inl (x : Int) : Key) = .inl (k : Int) from fun z => c (Int.ofNat.inj (Sum.inl.inj z))), beq_eq_false_iff_ne.mpr (fun z => c z.symm), Bool.false_or]
    exact ih
theorem b1y (k : Nat) (S : List Nat) : putT (seK S) (.inl (k : Int)) (.bl true) = seK (insN S k) := by
 have e : ((seK S).any fun kv => decide (kv.1 = .inl (k : Int))) = S.contains k := by
  induction S with
  | nil => rfl
  | cons x S ih =>
    show (decide ((Sum.inl (x : Int) : Key) = .inl (k : Int)) || (seK S).any fun kv => decide (kv.1 = .inl (k : Int))) = _
    rw [List.contains_cons, ih]
    congr 1
    by_cases c : x = k
    ·rw [c, decide_eq_true rfl, beq_self_eq_true]
    ·rw [decide_eq_false (show ¬ (Sum.inl (x : Int) : Key) = .inl (k : Int) from fun z => c (Int.ofNat.inj (Sum.inl.inj z))), beq_eq_false_iff_ne.mpr (fun z => c z.symm)]
 unfold putT insN
 rw [e]
 by_cases c : S.contains k = true
 ·rw [if_pos c, if_pos c]
  unfold seK
  rw [List.map_map]
  refine List.map_congr_left fun x _ => ?_
  show (if (Sum.inl (x : Int) : Key) = .inl (k : Int) then _ else _) = _
  split <;> rfl
 ·rw [if_neg c, if_neg c]
  unfold seK
  rw [List.map_append]; rfl
theorem b2w {S : List Nat} {k b : Nat} (h : S.Nodup ∧ ∀ x ∈ S, x < b) (hk : k < b) : (insN S k).Nodup ∧ ∀ x ∈ insN S k, x < b := by
 unfold insN
 by_cases c : S.contains k = true
 ·rw [if_pos c]; exact h
 ·rw [if_neg c]
  have hn : k ∉ S := fun z => c (List.contains_iff_mem.mpr z)
  refine ⟨List.nodup_append.mpr ⟨h.1, List.pairwise_singleton _ _, fun a ha x hx => by rw [List.mem_singleton.mp hx]; exact fun z => hn (z ▸ ha)⟩, fun x hx => ?_⟩
  rcases List.mem_append.mp hx with z | z
  ·exact h.2 x z
  ·rw [List.mem_singleton.mp z]; exact hk
theorem b6w (S : List Nat) (k : Nat) : S.length ≤ (insN S k).length := by
 unfold insN
 split
 ·exact Nat.le_refl _
 ·rw [List.length_append]; exact Nat.le_add_right _ _
theorem b8j {S : List Nat} {b : Nat} (h : S.Nodup ∧ ∀ x ∈ S, x < b) : S.length ≤ b := by
 have := List.Nodup.length_le_of_subset h.1 (l₂ := List.range b) fun x hx => List.mem_range.mpr (h.2 x hx)
 rwa [List.length_range] at this
noncomputable def a1e : Sp3 := fun ts M Q => match ts with
 | [.dic ks _] => ∃ (m : Nat) (N : Nst), ks = nI N ∧ Cm m ∧ N ∈ nsts m ∧ ∀ M', Sub M M' → Q (.int (lpN N : Nat)) M'
 | _ => False
theorem a4P {P w K base f fd} {mg : Str → Option Value} {n : Nat}  (F : Fun K "loops_of_nest" "loops_of_nest" a1k f fd) (hm : mg "loops_of_nest" = some (.ref f)) (hb : a0V K fd ["nest"] []) (Z : Zs K mg)  : Df P w K mg base (n + 1) "loops_of_nest" ["nest"] a1e := by
 refine F.dfn hm hb a0u (by unfold a1e; walk_at "ln") ⟨_, fun cdv A outer s H E hr => (@a0b _ _ _ _ _ (@a0D _ _ _ _ 1 _ _ (@a0q _ _ _ _ _ _ _ _ a3O (@a0I _ _ _ _ _ _ _ _ _ a0Q Z.b_len PySem.boot_len (@a0a _ _ _ _ _ (a2Z (@hv _ 0 _ _ (by rfl) (by walk_at "3") (by decide) (by decide))) a0e (by rfl)) (by rfl) (by decide) (by decide) (by rfl) (by rfl)) a0f) a0u.nd (by rfl) (by walk_at "2") (by rfl) (by walk_at "4")) (@a0b _ _ _ _ _ (@a0D _ _ _ _ 2 _ _ b4R a0u.nd (by rfl) (by walk_at "2") (by rfl) (by walk_at "4")) (@a0b _ _ _ _ _ (@a0D _ _ _ _ 3 _ _ a0f a0u.nd (by rfl) (by walk_at "2") (by rfl) (by walk_at "4")) (@a0b _ _ _ _ _ (@a5h _ _ _ _ _ _ _ _ PassesOwn.never rfl (@a4q _ _ _ _ _ _ Z.b_range (@a0a _ _ _ _ _ (@hv _ 1 _ _ (by rfl) (by walk_at "3") (by decide) (by decide)) a0e (by rfl)) (by rfl) (by rfl)) (@a1H _ _ 4 _ a0u.nd (by rfl) (by walk_at "2") (by walk_at "4")) (@a0b _ _ _ _ _ (@s_if _ _ _ _ _ _ _ _ (@a1D _ _ _ _ _ _ _ _ (a6a hr.units) (@hv _ 4 _ _ (by rfl) (by walk_at "3") (by decide) (by decide)) (@hv _ 2 _ _ (by rfl) (by walk_at "3") (by decide) (by decide)) rfl) (@a0j _ _ _ (@b7y _ 3 _ _ _ _ _ _ _ b8z a0f a0u.nd (by rfl) (by walk_at "2") (by walk_at "4"))) a3b) (@a0b _ _ _ _ _ (@a0D _ _ _ _ 5 _ _ (@hv _ 4 _ _ (by rfl) (by walk_at "3") (by decide) (by decide)) a0u.nd (by rfl) (by walk_at "2") (by rfl) (by walk_at "4")) (@a0j _ _ _ (@a8C _ _ _ _ _ _ PassesOwn.never (@a1D _ _ _ _ _ _ _ _ (a6a hr.units) (@hv _ 5 _ _ (by rfl) (by walk_at "3") (by decide) (by decide)) (@hv _ 2 _ _ (by rfl) (by walk_at "3") (by decide) (by decide)) rfl) (@a0b _ _ _ _ _ (@b3y _ _ _ _ _ _ _ _ _ hr.units h_bl (@hv _ 2 _ _ (by rfl) (by walk_at "3") (by decide) (by decide)) (@hv _ 5 _ _ (by rfl) (by walk_at "3") (by decide) (by decide)) (by rfl)) (@a0b _ _ _ _ _ (@b3y _ _ _ _ _ _ _ _ _ hr.units h_bl (@hv _ 2 _ _ (by rfl) (by walk_at "3") (by decide) (by decide)) (@h_ix _ _ _ _ _ _ (a2Z (@hv _ 0 _ _ (by rfl) (by walk_at "3") (by decide) (by decide))) (@hv _ 5 _ _ (by rfl) (by walk_at "3") (by decide) (by decide)) (by intro _ _; rfl)) (by rfl)) (@a0j _ _ _ (@a0D _ _ _ _ 5 _ _ (@a0q _ _ _ _ _ _ _ _ a2b (@a0q _ _ _ _ _ _ _ _ a0T (@h_ix _ _ _ _ _ _ (a2Z (@hv _ 0 _ _ (by rfl) (by walk_at "3") (by decide) (by decide))) (@hv _ 5 _ _ (by rfl) (by walk_at "3") (by decide) (by decide)) (by intro _ _; rfl)) (@hv _ 1 _ _ (by rfl) (by walk_at "3") (by decide) (by decide))) (@a0I _ _ _ _ _ _ _ _ _ a0Q Z.b_len PySem.boot_len (@a0a _ _ _ _ _ (a2Z (@hv _ 0 _ _ (by rfl) (by walk_at "3") (by decide) (by decide))) a0e (by rfl)) (by rfl) (by decide) (by decide) (by rfl) (by rfl))) a0u.nd (by rfl) (by walk_at "2") (by rfl) (by walk_at "4"))))))))) (by intro _; rfl)) (@a0j _ _ _ (@a0U _ _ _ _ (@hv _ 3 _ _ (by rfl) (by walk_at "3") (by decide) (by decide)))))))), fun ts M Q h => ?_⟩
 unfold a1e at h
 split at h
 ·rename_i ks e
  obtain ⟨m, N, rfl, hm, hN, h⟩ := h
  have hl := (a5q hm hN).1
  have hm6 := hm.2
  refine a0i fun K1 hK1 => ?_
  walk_at "rd"
  refine ⟨by unfold b1c; decide, ?_⟩
  rw [a9K, hl, show ((2 * m : Nat) : Int) / 2 = (m : Int) by lia, hK1]; clear hK1
  refine a0i fun K2 hK2 => ?_
  walk_at "rd"
  intro p hp
  have hMp : (updM M p (MO.dk [])) p = some (.dk []) := a0d
  have hS := Sub.new hp (o := MO.dk [])
  generalize updM M p (MO.dk []) = M1 at hMp hS ⊢
  rw [hK2]; clear hK2
  refine a0i fun K3 hK3 => ?_
  walk_at "rd"
  rw [hK3]; clear hK3
  refine a0i fun K4 hK4 => ?_
  refine a2w fun B hB => ?_
  unfold a4O
  walk_at "rd"
  refine ⟨by lia, by lia, fun i ρ M' => (∃ (S : List Nat) (c : Nat) (x4 x5 : Option T), ρ = [some (T.dic (nI N) e), some (T.int (m : Nat)), some (T.adr p), some (T.int (c : Nat)), x4, x5] ∧ M' p = some (.dk (seK S)) ∧ (S.Nodup ∧ ∀ x ∈ S, x < 2 * m) ∧ c + lpS N (m - i) i S = lpN N) ∧ Sub M M', ⟨⟨[], 0, _, _, rfl, hMp, ⟨.nil, fun _ z => absurd z List.not_mem_nil⟩, ?_⟩, hS⟩, fun _ _ _ _ => trivial, ?_, ?_⟩
  ·unfold lpN
   rw [hl, Nat.zero_add, show 2 * m / 2 = m by lia]; rfl
  ·rintro i x ρ M' hx ⟨⟨S, c, x4, x5, rfl, hMp, hSd, hc⟩, hS⟩
   obtain ⟨hi, rfl⟩ := a5m hx
   have him : i < m := by lia
   rw [show m - i = (m - (i + 1)) + 1 by lia] at hc
   have hc : c + ((if S.contains i then 0 else 1) + lpS N (m - (i + 1)) (i + 1) (wkN N (N.length + 1) S i)) = lpN N := hc
   rw [hB]; clear hB
   refine a0i fun K5 hK5 => ?_
   walk_at "rd"
   rw [hMp]
   dsimp only
   refine ⟨.inl (i : Int), rfl, ?_⟩
   rw [b1A]
   have cont : ∀ (c2 : Nat), c2 + lpS N (m - (i + 1)) (i + 1) (wkN N (N.length + 1) S i) = lpN N → K5 [some (T.dic (nI N) e), some (T.int (m : Nat)), some (T.adr p), some (T.int (c2 : Nat)), some (T.int (i : Nat)), x5] M' := fun c2 hc2 => by
    rw [hK5]; clear hK5
    refine a0i fun K6 hK6 => ?_
    walk_at "rd"
    rw [hK6]; clear hK6
    refine b1d fun C hC => ?_
    unfold a3a
    refine ⟨fun ms ρ M2 => ∃ (f : Nat) (S' : List Nat) (a : Nat), ρ = [some (T.dic (nI N) e), some (T.int (m : Nat)), some (T.adr p), some (T.int (c2 : Nat)), some (T.int (i : Nat)), some (T.int (a : Nat))] ∧ M2 p = some (.dk (seK S')) ∧ (S'.Nodup ∧ ∀ x ∈ S', x < 2 * m) ∧ a < 2 * m ∧ wkN N f S' a = wkN N (N.length + 1) S i ∧ 2 * m + 1 ≤ f + S'.length ∧ ms = 2 * m - S'.length ∧ Sub M M2, ⟨_, N.length + 1, S, i, rfl, hMp, hSd, by lia, rfl, by lia, rfl, hS⟩, ?_⟩
    rintro ms ρ M2 ⟨f, S', a, rfl, hM2, hd', ha, hw, hf, rfl, hS2⟩
    have hle := b8j hd'
    obtain ⟨g, rfl⟩ : ∃ g, f = g + 1 := ⟨f - 1, by lia⟩
    have hw2 : (if S'.contains a then S' else wkN N g (insN (insN S' a) (gN N a)) ((gN N a + N.length / 2) % N.length)) = wkN N (N.length + 1) S i := hw
    walk_at "rd"
    rw [hM2]
    dsimp only
    refine ⟨.inl (a : Int), rfl, ?_⟩
    rw [b1A]
    have hca : S'.contains a = true ↔ a ∈ S' := List.contains_iff_mem
    refine ite2 (fun c1 => ?_) (fun c1 => ?_)
    ·rw [if_neg (by rw [c1]; decide)] at hw2
     have hna : a ∉ S' := fun z => by rw [hca.mpr z] at c1; cases c1
     have hga := (b2b hm hN ha).1
     have hl1 : (insN S' a).length = S'.length + 1 := by
      unfold insN
      rw [if_neg (by rw [c1]; decide), List.length_append]; rfl
     have hd1 := b2w hd' ha
     have hd2 := b2w hd1 hga
     have hl2 := b6w (insN S' a) (gN N a)
     have hle2 := b8j hd2
     rw [hC]; clear hC
     refine a0i fun K7 hK7 => ?_
     walk_at "rd"
     rw [hM2]
     dsimp only
     refine ⟨.inl (a : Int), rfl, a0J (by rw [b1z]; lia), ?_⟩
     rw [b1y]
     have hM3 : (updM M2 p (.dk (seK (insN S' a)))) p = some (.dk (seK (insN S' a))) := a0d
     have hS3 := hS2.updF hp (o := .dk (seK (insN S' a)))
     generalize updM M2 p (.dk (seK (insN S' a))) = M3 at hM3 hS3 ⊢
     rw [hK7]; clear hK7
     refine a0i fun K8 hK8 => ?_
     walk_at "rd"
     rw [b2c (by lia : a < N.length)]
     dsimp only
     rw [hM3]
     dsimp only
     refine ⟨.inl (gN N a : Nat), rfl, a0J (by rw [b1z]; lia), ?_⟩
     rw [b1y]
     have hM4 : (updM M3 p (.dk (seK (insN (insN S' a) (gN N a))))) p = some (.dk (seK (insN (insN S' a) (gN N a)))) := a0d
     have hS4 := hS3.updF hp (o := .dk (seK (insN (insN S' a) (gN N a))))
     generalize updM M3 p (.dk (seK (insN (insN S' a) (gN N a)))) = M4 at hM4 hS4 ⊢
     rw [hK8]; clear hK8
     walk_at "rd"
     rw [b2c (by lia : a < N.length)]
     dsimp only
     rw [a9K, hl]
     have em : (((gN N a : Nat) : Int) + (m : Nat)) % ((2 * m : Nat) : Int) = (((gN N a + N.length / 2) % N.length : Nat) : Int) := by rw [hl, show 2 * m / 2 = m by lia]; lia
     rw [em]
     rw [hl] at hw2
     refine ⟨by lia, _, ?_, g, _, _, rfl, hM4, hd2, ?_, by rw [hl]; exact hw2, by lia, rfl, hS4⟩
     ·lia
     ·rw [hl]; exact Nat.mod_lt _ (by lia)
    ·have c2' : S'.contains a = true := by simpa using c1
     rw [if_pos c2'] at hw2
     rw [← hw2] at hc2
     exact ⟨⟨S', c2, _, _, rfl, rfl, hd', hc2⟩, hS2⟩
   refine ite2 (fun c1 => ?_) (fun c1 => ?_)
   ·rw [if_neg (by rw [c1]; decide)] at hc
    exact cont (c + 1) (by lia)
   ·rw [if_pos (by simpa using c1)] at hc
    exact cont c (by lia)
  ·rintro ρ M' ⟨⟨S, c, x4, x5, rfl, hMp, hSd, hc⟩, hS⟩
   rw [a1m, show ((m : Nat) : Int).toNat = m by lia, Nat.sub_self] at hc
   rw [hK4]
   walk_at "rd"
   rw [show c = lpN N from hc]
   exact a0n (h M' hS)
 ·exact h.elim
theorem a7n (d : Nst × Po) : ∀ (D : DN) (a : Po), sumD (D ++ [d]) a = addP (sumD D a) (a0Z d.2 (dP (lpN d.1 - 1)))
 | [], a => rfl
 | x :: D, a => a7n d D _
theorem a3Z {m b : Nat} (hm : Cm m) (hb : (b : Int) % 1 = 0) : ∀ (D : DN) (a : Po), GdE (b + 2 * m) a → (∀ d ∈ D, d.1 ∈ nsts m ∧ GdE b d.2) → GdE (b + 2 * m) (sumD D a)
 | [], a, h, _ => h
 | d :: D, a, h, hD => by
   obtain ⟨h1, h2⟩ := hD d (.head _)
   have l1 := a7L hm h1
   have l2 := b4N hm h1
   exact a3Z hm hb D _ (h.add ((h2.mul (a5A (lpN d.1 - 1))).up (m - (lpN d.1 - 1)) (by lia))) fun x hx => hD x (.tail _ hx)
theorem a7J {m : Nat} (hm : Cm m) {w : List Int} (hw : ∀ l ∈ w, LetN m l) : sumD (dcW m w) [] = (stS m w).1 := by
 refine b3J (a3Z (b := 3 * w.length) hm (by lia) _ _ (GdE.nil _) (b0e hm hw).2).1 ?_
 rw [b1s, b8Y, show toL [] = 0 from b5i]
 unfold stS
 grind
theorem a9q {m : Nat} (hm : Cm m) {w : List Int} (hw : ∀ l ∈ w, LetN m l) : GdE (3 * w.length + 2 * m) (stS m w).1 := by
 rw [← a7J hm hw]
 exact a3Z (b := 3 * w.length) hm (by lia) _ _ (GdE.nil _) (b0e hm hw).2
noncomputable def a1X : Sp3 := fun ts M Q => match ts with
 | [.tup [.int n, .tup w]] => ∃ ws : List Int, w = ws.map .int ∧ PlOK n ws ∧ ∀ M', Sub M M' → Q (poT (stS n.toNat ws).1) M'
 | _ => False
theorem a8O {P w K base f fd} {mg : Str → Option Value} {n : Nat}  (F : Fun K "by_nests" "by_nests" a3r f fd) (hm : mg "by_nests" = some (.ref f)) (hb : a0V K fd ["plait"] []) (Z : Zs K mg) (D_looked : Df P w K mg base n "looked" ["plait"] a1W) (D_plain_nest : Df P w K mg base n "plain_nest" ["strands"] a1I) (D_with_letter : Df P w K mg base n "with_letter" ["worths", "letter"] a1w) (D_loop_worths : Df P w K mg base n "loop_worths" ["most"] a1x) (D_added : Df P w K mg base n "added" ["one", "other"] a3m) (D_multiplied : Df P w K mg base n "multiplied" ["one", "other"] a0C) (D_loops_of_nest : Df P w K mg base n "loops_of_nest" ["nest"] a1e) : Df P w K mg base (n + 1) "by_nests" ["plait"] a1X := by
 obtain ⟨tk_ONE, c_ONE⟩ := Z.c_ONE
 obtain ⟨tk_NOUGHT, c_NOUGHT⟩ := Z.c_NOUGHT
 refine F.dfn hm hb a0N (by unfold a1X; walk_at "ln") ⟨_, fun cdv A outer s H E hr => (@a0b _ _ _ _ _ (@a3E _ _ _ _ (@a0m _ _ _ _ _ _ _ _ _ _ D_looked hr (@a0a _ _ _ _ _ (@hv _ 0 _ _ (by rfl) (by walk_at "3") (by decide) (by decide)) a0e (by rfl)) (by rfl) (by decide) (by rfl) (by rfl)) (by rfl)) (@a0b _ _ _ _ _ (@a0D _ _ _ _ 1 _ _ (b6z hr.units (@a0m _ _ _ _ _ _ _ _ _ _ D_plain_nest hr (@a0a _ _ _ _ _ (@h_ix _ _ _ _ _ _ (@hv _ 0 _ _ (by rfl) (by walk_at "3") (by decide) (by decide)) a0f (by intro _ _; rfl)) a0e (by rfl)) (by rfl) (by decide) (by rfl) (by rfl)) (@a3Q _ _ _ _ _ c_ONE (by rfl) (by decide))) a0N.nd (by rfl) (by walk_at "2") (by rfl) (by walk_at "4")) (@a0b _ _ _ _ _ (@a5h _ _ _ _ _ _ _ _ PassesOwn.never rfl (@a4y _ _ _ _ (@h_ix _ _ _ _ _ _ (@hv _ 0 _ _ (by rfl) (by walk_at "3") (by decide) (by decide)) a0f (by intro _ _; rfl))) (@a1H _ _ 2 _ a0N.nd (by rfl) (by walk_at "2") (by walk_at "4")) (@a0j _ _ _ (@a0D _ _ _ _ 1 _ _ (@a0m _ _ _ _ _ _ _ _ _ _ D_with_letter hr (@a0a _ _ _ _ _ (@hv _ 1 _ _ (by rfl) (by walk_at "3") (by decide) (by decide)) (@a0a _ _ _ _ _ (@hv _ 2 _ _ (by rfl) (by walk_at "3") (by decide) (by decide)) a0e (by rfl)) (by rfl)) (by rfl) (by decide) (by rfl) (by rfl)) a0N.nd (by rfl) (by walk_at "2") (by rfl) (by walk_at "4"))) (by intro _; rfl)) (@a0b _ _ _ _ _ (@a0D _ _ _ _ 3 _ _ (@a0m _ _ _ _ _ _ _ _ _ _ D_loop_worths hr (@a0a _ _ _ _ _ (@h_ix _ _ _ _ _ _ (@hv _ 0 _ _ (by rfl) (by walk_at "3") (by decide) (by decide)) a0f (by intro _ _; rfl)) a0e (by rfl)) (by rfl) (by decide) (by rfl) (by rfl)) a0N.nd (by rfl) (by walk_at "2") (by rfl) (by walk_at "4")) (@a0b _ _ _ _ _ (@a0D _ _ _ _ 4 _ _ (@a3Q _ _ _ _ _ c_NOUGHT (by rfl) (by decide)) a0N.nd (by rfl) (by walk_at "2") (by rfl) (by walk_at "4")) (@a0b _ _ _ _ _ (@a5h _ _ _ _ _ _ _ _ PassesOwn.never rfl (b2x (@hv _ 1 _ _ (by rfl) (by walk_at "3") (by decide) (by decide))) (@b2D _ _ _ _ _ 2 rfl (@a2v _ _ _ _ _ (@a1H _ _ 5 _ a0N.nd (by rfl) (by walk_at "2") (by walk_at "4")) (@a2v _ _ _ _ _ (@a1H _ _ 6 _ a0N.nd (by rfl) (by walk_at "2") (by walk_at "4")) a7W (by rfl)) (by rfl)) (by rfl) (by rfl)) (@a0j _ _ _ (@a0D _ _ _ _ 4 _ _ (@a0m _ _ _ _ _ _ _ _ _ _ D_added hr (@a0a _ _ _ _ _ (@hv _ 4 _ _ (by rfl) (by walk_at "3") (by decide) (by decide)) (@a0a _ _ _ _ _ (@a0m _ _ _ _ _ _ _ _ _ _ D_multiplied hr (@a0a _ _ _ _ _ (@hv _ 6 _ _ (by rfl) (by walk_at "3") (by decide) (by decide)) (@a0a _ _ _ _ _ (@h_ix _ _ _ _ _ _ (@hv _ 3 _ _ (by rfl) (by walk_at "3") (by decide) (by decide)) (@a0m _ _ _ _ _ _ _ _ _ _ D_loops_of_nest hr (@a0a _ _ _ _ _ (@hv _ 5 _ _ (by rfl) (by walk_at "3") (by decide) (by decide)) a0e (by rfl)) (by rfl) (by decide) (by rfl) (by rfl)) (by intro _ _; rfl)) a0e (by rfl)) (by rfl)) (by rfl) (by decide) (by rfl) (by rfl)) a0e (by rfl)) (by rfl)) (by rfl) (by decide) (by rfl) (by rfl)) a0N.nd (by rfl) (by walk_at "2") (by rfl) (by walk_at "4"))) (by intro _; rfl)) (@a0j _ _ _ (@a0U _ _ _ _ (@hv _ 4 _ _ (by rfl) (by walk_at "3") (by decide) (by decide)))))))))), fun ts M Q h => ?_⟩
 unfold a1X at h
 split at h
 ·rename_i n w
  obtain ⟨ws, rfl, ok, h⟩ := h
  obtain ⟨n1, n6, hl, hw⟩ := id ok
  have hm : Cm n.toNat := ⟨by lia, by lia⟩
  have hlet := a8S hw
  refine a0i fun K1 hK1 => ?_
  walk_at "rd"
  refine ⟨ws, rfl, ok, ?_⟩
  show K1 _ _
  rw [hK1]; clear hK1
  refine a0i fun K2 hK2 => ?_
  walk_at "rd"
  intro p hp
  refine ⟨n.toNat, by lia, hm.1, hm.2, ?_⟩
  dsimp only
  refine ⟨a0d, ?_⟩
  have hMp : (updM (updM M p (MO.dt [])) p (MO.dt [(kyI (nI (plN n.toNat)), T.tup [T.tup [T.int 0, T.int 1]])])) p = some (.dt (dtN (dcW n.toNat []))) := a0d
  have hS : Sub M (updM (updM M p (MO.dt [])) p (MO.dt [(kyI (nI (plN n.toNat)), T.tup [T.tup [T.int 0, T.int 1]])])) := (Sub.new hp).updF hp
  generalize updM (updM M p (MO.dt [])) p (MO.dt [(kyI (nI (plN n.toNat)), T.tup [T.tup [T.int 0, T.int 1]])]) = M1 at hMp hS ⊢
  rw [hK2]; clear hK2
  refine a0i fun K3 hK3 => ?_
  refine a2w fun B hB => ?_
  unfold a4O
  walk_at "rd"
  refine ⟨fun i ρ M' => (∃ (q : Addr) (x2 x3 x4 x5 x6 : Option T), ρ = [some (T.tup [T.int n, T.tup (List.map T.int ws)]), some (T.adr q), x2, x3, x4, x5, x6] ∧ M q = none ∧ M' q = some (.dt (dtN (dcW n.toNat (ws.take i))))) ∧ Sub M M', ⟨⟨p, _, _, _, _, _, rfl, hp, hMp⟩, hS⟩, fun _ _ _ _ => trivial, ?_, ?_⟩
  ·rintro i x ρ M' hx ⟨⟨q, x2, x3, x4, x5, x6, rfl, hq, hMq⟩, hS⟩
   obtain ⟨l, hl1, rfl⟩ := a0O hx
   have hlm := hlet l (List.mem_of_getElem? hl1)
   have hD := b0e hm (w := ws.take i) fun y hy => hlet y (List.mem_of_mem_take hy)
   have hi := (List.getElem?_eq_some_iff.mp hl1).1
   have et : dcW n.toNat (ws.take (i + 1)) = wlN l (dcW n.toNat (ws.take i)) := by
    unfold dcW
    rw [List.take_add_one, hl1, List.foldl_append]; rfl
   rw [hB]; clear hB
   walk_at "rd"
   refine ⟨n.toNat, _, _, hMq, hm, hlm, hD, by rw [List.length_take]; lia, fun r M2 hr hk hMr => ?_⟩
   exact ⟨⟨r, _, _, _, _, _, rfl, a6T hS hr, by rw [et]; exact hMr⟩, fun a o ho => hk a o (fun z => by rw [z, hq] at ho; cases ho) (hS a o ho)⟩
  ·rintro ρ M' ⟨⟨q, x2, x3, x4, x5, x6, rfl, hq, hMq⟩, hS⟩
   try rw [List.length_map] at hMq
   rw [List.take_length] at hMq
   have hD := b0e hm (w := ws) hlet
   have hns := a7J hm hlet
   generalize dcW n.toNat ws = D at hMq hD hns
   rw [hK3]; clear hK3
   refine a0i fun K4 hK4 => ?_
   walk_at "rd"
   refine ⟨n.toNat, by lia, hm.1, by lia, fun r M2 hr hS2 hMr => ?_⟩
   show K4 _ _
   have hMq2 := hS2 _ _ hMq
   have hS3 := hS.trans hS2
   have hqr : q ≠ r := fun z => by rw [z, hr] at hMq; cases hMq
   rw [hK4]; clear hK4
   refine a0i fun K5 hK5 => ?_
   walk_at "rd"
   rw [hK5]; clear hK5
   refine a0i fun K6 hK6 => ?_
   refine a2w fun B2 hB2 => ?_
   unfold a4O
   walk_at "rd"
   rw [hMq2]
   dsimp only
   refine ⟨_, b2M D, ?_⟩
   have hMr2 : (updM M2 q (MO.fz (dtN D))) r = some (.lst ((lwL n.toNat).map poT)) := by rw [a0x hqr.symm]; exact hMr
   have hS4 := hS3.updF hq (o := MO.fz (dtN D))
   generalize updM M2 q (MO.fz (dtN D)) = M3 at hMr2 hS4 ⊢
   refine ⟨fun i ρ M' => (∃ (x2 x5 x6 : Option T), ρ = [some (T.tup [T.int n, T.tup (List.map T.int ws)]), some (T.adr q), x2, some (T.adr r), some (poT (sumD (D.take i) [])), x5, x6]) ∧ M' r = some (.lst ((lwL n.toNat).map poT)) ∧ Sub M M', ⟨⟨_, _, _, rfl⟩, hMr2, hS4⟩, fun _ _ _ _ => trivial, ?_, ?_⟩
   ·rintro i x ρ M' hx ⟨⟨x2, x5, x6, rfl⟩, hMr, hS⟩
    obtain ⟨⟨N, u⟩, hdi, rfl⟩ : ∃ y, D[i]? = some y ∧ x = T.tup [T.dic (nI y.1) [], poT y.2] := by
     unfold prTs at hx
     rw [List.map_map, List.getElem?_map] at hx
     obtain ⟨y, h1, h2⟩ := Option.map_eq_some_iff.mp hx
     exact ⟨y, h1, h2.symm⟩
    obtain ⟨hN, hu⟩ := hD.2 _ (List.mem_of_getElem? hdi)
    dsimp only at hN hu
    have l1 := a7L hm hN
    have l2 := b4N hm hN
    dsimp only
    refine ⟨rfl, rfl, ?_⟩
    rw [hB2]; clear hB2
    walk_at "rd"
    refine ⟨n.toNat, N, rfl, hm, hN, fun M4 hS5 => ?_⟩
    dsimp only
    rw [hS5 _ _ hMr]
    dsimp only
    have e0 : atI ((lwL n.toNat).map poT) ((lpN N : Nat) : Int) = some (poT (dP (lpN N - 1))) := by
     refine a3W ?_
     rw [List.getElem?_map, show lpN N = lpN N - 1 + 1 by lia, b6p (by lia)]; rfl
    rw [e0]
    dsimp only
    have g3 := a3Z (b := 3 * ws.length) hm (by lia) (D.take i) [] (GdE.nil _) fun y hy => hD.2 y (List.mem_of_mem_take hy)
    have g2 := hu.mul (a5A (lpN N - 1))
    refine a3f hu (a5A (lpN N - 1)) (by lia) (.inr (Sml.dP (by lia))) ?_
    refine a8p g3 (g2.up (n.toNat - (lpN N - 1)) (by lia)) (by lia) ?_
    have et : D.take (i + 1) = D.take i ++ [(N, u)] := by rw [List.take_add_one, hdi]; rfl
    rw [et, a7n]
    exact ⟨⟨_, _, _, rfl⟩, hS5 _ _ hMr, hS.trans hS5⟩
   ·rintro ρ M' ⟨⟨x2, x5, x6, rfl⟩, hMr, hS⟩
    rw [hK6]
    walk_at "rd"
    rw [a3M, List.length_map, List.take_length, hns]
    exact a0n (h M' hS)
 ·exact h.elim
theorem b9w (n : Int) (w : List Int) : a0Z (stS n.toNat w).1 [(-3 * (w.map sgI).sum, if (w.map sgI).sum % 2 = 0 then 1 else -1)] = (seL n w).1 := b3J (a1c _) (by rw [a2t, b1i]; rfl)
noncomputable def a2x : Sp3 := fun ts M Q => match ts with
 | [.tup [.int n, .tup w]] => ∃ ws : List Int, w = ws.map .int ∧ PlOK n ws ∧ ∀ M', Sub M M' → Q (poT (seL n ws).1) M'
 | _ => False
theorem b0F {P w K base f fd} {mg : Str → Option Value} {n : Nat}  (F : Fun K "settled" "settled" a4i f fd) (hm : mg "settled" = some (.ref f)) (hb : a0V K fd ["plait"] []) (Z : Zs K mg) (D_by_nests : Df P w K mg base n "by_nests" ["plait"] a1X) (D_turns : Df P w K mg base n "turns" ["plait"] a4a) (D_multiplied : Df P w K mg base n "multiplied" ["one", "other"] a0C) : Df P w K mg base (n + 1) "settled" ["plait"] a2x := by
 refine F.dfn hm hb a3n (by unfold a2x; walk_at "ln") ⟨_, fun cdv A outer s H E hr => (@a0b _ _ _ _ _ (@a0D _ _ _ _ 1 _ _ (@a0m _ _ _ _ _ _ _ _ _ _ D_by_nests hr (@a0a _ _ _ _ _ (@hv _ 0 _ _ (by rfl) (by walk_at "3") (by decide) (by decide)) a0e (by rfl)) (by rfl) (by decide) (by rfl) (by rfl)) a3n.nd (by rfl) (by walk_at "2") (by rfl) (by walk_at "4")) (@a0b _ _ _ _ _ (@a0D _ _ _ _ 2 _ _ (@a0m _ _ _ _ _ _ _ _ _ _ D_turns hr (@a0a _ _ _ _ _ (@hv _ 0 _ _ (by rfl) (by walk_at "3") (by decide) (by decide)) a0e (by rfl)) (by rfl) (by decide) (by rfl) (by rfl)) a3n.nd (by rfl) (by walk_at "2") (by rfl) (by walk_at "4")) (@a0b _ _ _ _ _ (@a0D _ _ _ _ 3 _ _ (@b9X _ _ _ _ _ _ _ _ (@a1D _ _ _ _ _ _ _ _ (@a6b _ hr.units) (@a0q _ _ _ _ _ _ _ _ a2b (@hv _ 2 _ _ (by rfl) (by walk_at "3") (by decide) (by decide)) a0f) a0f (@a1r _ _ (by decide) (by decide))) a0f (@h_un _ _ _ _ _ _ a1G a0f)) a3n.nd (by rfl) (by walk_at "2") (by rfl) (by walk_at "4")) (@a0j _ _ _ (@a0U _ _ _ _ (@a0m _ _ _ _ _ _ _ _ _ _ D_multiplied hr (@a0a _ _ _ _ _ (@hv _ 1 _ _ (by rfl) (by walk_at "3") (by decide) (by decide)) (@a4G _ _ _ _ _ _ _ (@a4S _ _ _ _ _ (@a4G _ _ _ _ _ _ _ (@a4S _ _ _ _ _ (@a0a _ _ _ _ _ (@a0q _ _ _ _ _ _ _ _ a0W (@h_un _ _ _ _ _ _ a1G a0f) (@hv _ 2 _ _ (by rfl) (by walk_at "3") (by decide) (by decide))) (@a0a _ _ _ _ _ (@hv _ 3 _ _ (by rfl) (by walk_at "3") (by decide) (by decide)) a0e (by rfl)) (by rfl))) a0e)) a0e) (by rfl)) (by rfl) (by decide) (by rfl) (by rfl))))))), fun ts M Q h => ?_⟩
 unfold a2x at h
 split at h
 ·rename_i n w
  obtain ⟨ws, rfl, ok, h⟩ := h
  refine a0i fun K1 hK1 => ?_
  walk_at "rd"
  refine ⟨ws, rfl, ok, fun M1 hS1 => ?_⟩
  obtain ⟨n1, n6, hl, hw⟩ := id ok
  have hm : Cm n.toNat := ⟨by lia, by lia⟩
  have hg := a9q hm (a8S hw)
  show K1 _ _
  rw [hK1]; clear hK1
  refine a0i fun K2 hK2 => ?_
  walk_at "rd"
  refine ⟨ws, rfl, ok, fun M2 hS2 => ?_⟩
  show K2 _ _
  rw [hK2]; clear hK2
  refine a0i fun K3 hK3 => ?_
  walk_at "rd"
  refine ⟨by decide, ?_⟩
  have hsm : ((ws.map sgI).sum).natAbs ≤ 16 := by
   have key : ∀ w : List Int, ((w.map sgI).sum).natAbs ≤ w.length := by
    intro w
    induction w with
    | nil => exact Nat.le_refl _
    | cons l w ih =>
      rw [List.map_cons, List.sum_cons, List.length_cons]
      have : sgI l = 1 ∨ sgI l = -1 := by unfold sgI; split <;> simp
      lia
   have := key ws
   lia
  have fin : ∀ c : Int, (c = 1 ∨ c = -1) → c = (if (ws.map sgI).sum % 2 = 0 then 1 else -1) → K3 [some (T.tup [T.int n, T.tup (List.map T.int ws)]), some (poT (stS n.toNat ws).val), some (T.int (List.map sgI ws).sum), some (T.int c)] M2 := fun c hc ec => by
   rw [hK3]; clear hK3
   walk_at "rd"
   refine ⟨.inl ⟨by decide, by decide⟩, by decide, by decide, ?_⟩
   refine ⟨(stS n.toNat ws).1, [(-3 * (ws.map sgI).sum, c)], (stS n.toNat ws).1.map fun x => x.1 + -3 * (ws.map sgI).sum, rfl, rfl, ?_, fun x hx y hy => ?_, .inr fun x hx => ?_, ?_, by show 1 ≤ 5000; decide, ?_⟩
   ·rw [List.length_map]; have := hg.len; lia
   ·rw [List.mem_singleton.mp hy]
    exact List.mem_map.mpr ⟨x, hx, rfl⟩
   ·rw [List.mem_singleton.mp hx]
    rcases hc with rfl | rfl
    ·show (1 : Int).natAbs < 2 ^ 64; decide
    ·show (-1 : Int).natAbs < 2 ^ 64; decide
   ·have := hg.len; lia
   ·rw [ec, b9w]
    exact a0n (h M2 (hS1.trans hS2))
  refine ite2 (fun c => fin 1 (.inl rfl) (by rw [if_pos c])) (fun c => fin (-1) (.inr rfl) (by rw [if_neg c]))
 ·exact h.elim
noncomputable def a1M : Sp3 := fun ts M Q => match ts with
 | [.rd s, .int k] => ∃ ns : List Int, s = ns.map .int ∧ 0 ≤ k ∧ k < 100 ∧ ∀ p c f, M p = none → Q (.adr p) (updM M p (.lst [.int c, .int f]))
 | _ => False
theorem a6R {P w K base f fd} {mg : Str → Option Value} {n : Nat}  (F : Fun K "_law_state" "_law_state" a2q f fd) (hm : mg "_law_state" = some (.ref f)) (hb : a0V K fd ["script", "k"] []) (Z : Zs K mg)  : Df P w K mg base (n + 1) "_law_state" ["script", "k"] a1M := by
 refine F.dfn hm hb a2J (by unfold a1M; walk_at "ln") ⟨_, fun cdv A outer s H E hr => (@a0b _ _ _ _ _ (@a0D _ _ _ _ 2 _ _ a0f a2J.nd (by rfl) (by walk_at "2") (by rfl) (by walk_at "4")) (@a0b _ _ _ _ _ (@s_if _ _ _ _ _ _ _ _ (@a1D _ _ _ _ _ _ _ _ b1T (@hv _ 1 _ _ (by rfl) (by walk_at "3") (by decide) (by decide)) (@a0I _ _ _ _ _ _ _ _ _ a0Q Z.b_len PySem.boot_len (@a0a _ _ _ _ _ (@hv _ 0 _ _ (by rfl) (by walk_at "3") (by decide) (by decide)) a0e (by rfl)) (by rfl) (by decide) (by decide) (by rfl) (by rfl)) (@a1r _ _ (by decide) (by decide))) (@a0j _ _ _ (@a0D _ _ _ _ 2 _ _ (@h_ix _ _ _ _ _ _ (@hv _ 0 _ _ (by rfl) (by walk_at "3") (by decide) (by decide)) (@hv _ 1 _ _ (by rfl) (by walk_at "3") (by decide) (by decide)) (by intro _ _; rfl)) a2J.nd (by rfl) (by walk_at "2") (by rfl) (by walk_at "4"))) a3b) (@a0b _ _ _ _ _ (@s_if _ _ _ _ _ _ _ _ (@a1D _ _ _ _ _ _ _ _ b8g (@hv _ 2 _ _ (by rfl) (by walk_at "3") (by decide) (by decide)) (@a0q _ _ _ _ _ _ _ _ b1S a0f a0f) (@a1r _ _ (by decide) (by decide))) (@a0j _ _ _ (@a0U _ _ _ _ (@a7V _ _ _ _ (@a0a _ _ _ _ _ (@a0q _ _ _ _ _ _ _ _ a2a (@hv _ 2 _ _ (by rfl) (by walk_at "3") (by decide) (by decide)) (@a0q _ _ _ _ _ _ _ _ b1S a0f a0f)) (@a0a _ _ _ _ _ a0f a0e (by rfl)) (by rfl))))) a3b) (@a0j _ _ _ (@a0U _ _ _ _ (@a7V _ _ _ _ (@a0a _ _ _ _ _ (@a0q _ _ _ _ _ _ _ _ a2b (@a0q _ _ _ _ _ _ _ _ a0T (@hv _ 2 _ _ (by rfl) (by walk_at "3") (by decide) (by decide)) (@a0q _ _ _ _ _ _ _ _ a0W a0f (@hv _ 1 _ _ (by rfl) (by walk_at "3") (by decide) (by decide)))) a0f) (@a0a _ _ _ _ _ a0f a0e (by rfl)) (by rfl)))))))), fun ts M Q h => ?_⟩
 unfold a1M at h
 split at h
 ·rename_i s k
  obtain ⟨ns, rfl, h0, h1, h⟩ := h
  walk_at "rd"
  refine ite2 (fun c => ?_) (fun c => ?_)
  ·rw [a5b ns k h0 c]
   refine ⟨⟨by decide, by decide, by decide⟩, ite2 (fun _ => ⟨⟨by decide, by decide, by decide⟩, by decide, fun p hp => a0n (h _ _ _ hp)⟩) (fun _ => ⟨.inl ⟨by decide, by decide⟩, by decide, by decide, fun p hp => a0n (h _ _ _ hp)⟩)⟩
  ·refine ⟨⟨by decide, by decide, by decide⟩, ite2 (fun _ => ⟨⟨by decide, by decide, by decide⟩, by decide, fun p hp => a0n (h _ _ _ hp)⟩) (fun _ => ⟨.inl ⟨by decide, by decide⟩, by decide, by decide, fun p hp => a0n (h _ _ _ hp)⟩)⟩
 ·exact h.elim
theorem b3a {x m : Int} (h0 : 0 < m) (h1 : m < 2 ^ 100) : b1c x m := by
 refine ⟨h0, ?_⟩
 have : m.natAbs.log2 < 100 := (Nat.log2_lt (by lia)).mpr (by lia)
 lia
theorem b0i {x y k : Int} (hk : 0 < k) (hk' : k ≤ 2 ^ 64) : CMul (x % k) y := by
 have h1 := Int.emod_nonneg x (Int.ne_of_gt hk)
 have h2 := Int.emod_lt_of_pos x hk
 exact .inl ⟨by lia, by lia⟩
noncomputable def a1B : Sp3 := fun ts M Q => match ts with
 | [.adr p, .int m] => ∃ s f, M p = some (.lst [.int s, .int f]) ∧ 0 < m ∧ m < 2 ^ 60 ∧ ∀ c s' f', 0 ≤ c → c < m → Q (.int c) (updM M p (.lst [.int s', .int f']))
 | _ => False
theorem a7G {P w K base f fd} {mg : Str → Option Value} {n : Nat}  (F : Fun K "_law_take" "_law_take" a2N f fd) (hm : mg "_law_take" = some (.ref f)) (hb : a0V K fd ["state", "many"] []) (Z : Zs K mg)  : Df P w K mg base (n + 1) "_law_take" ["state", "many"] a1B := by
 refine F.dfn hm hb a2k (by unfold a1B; walk_at "ln") ⟨_, fun cdv A outer s H E hr => (@a0b _ _ _ _ _ (@s_if _ _ _ _ _ _ _ _ (@HW.ht _ _ _ (@b6Y _ _ _ _ _ _ _ (@a1D _ _ _ _ _ _ _ _ (@a6b _ hr.units) (@h_ix _ _ _ _ _ _ (@hv _ 0 _ _ (by rfl) (by walk_at "3") (by decide) (by decide)) a0f (by intro _ _; rfl)) a0f (@a1r _ _ (by decide) (by decide))) (@b4w _ _ _ _ (@a1D _ _ _ _ _ _ _ _ a9G (@h_ix _ _ _ _ _ _ (@hv _ 0 _ _ (by rfl) (by walk_at "3") (by decide) (by decide)) a0f (by intro _ _; rfl)) a0f (@a1r _ _ (by decide) (by decide)))))) (@a0b _ _ _ _ _ (@a0D _ _ _ _ 2 _ _ (@a0q _ _ _ _ _ _ _ _ a2b (@h_ix _ _ _ _ _ _ (@hv _ 0 _ _ (by rfl) (by walk_at "3") (by decide) (by decide)) a0f (by intro _ _; rfl)) (@hv _ 1 _ _ (by rfl) (by walk_at "3") (by decide) (by decide))) a2k.nd (by rfl) (by walk_at "2") (by rfl) (by walk_at "4")) (@a0b _ _ _ _ _ (@a7w _ _ _ _ _ _ (@a0q _ _ _ _ _ _ _ _ a3O (@h_ix _ _ _ _ _ _ (@hv _ 0 _ _ (by rfl) (by walk_at "3") (by decide) (by decide)) a0f (by intro _ _; rfl)) (@hv _ 1 _ _ (by rfl) (by walk_at "3") (by decide) (by decide))) (@a7X _ _ _ _ _ _ (@hv _ 0 _ _ (by rfl) (by walk_at "3") (by decide) (by decide)) a0f (by intro _; rfl)) (by rfl) (by rfl) (by rfl)) (@a0j _ _ _ (@a0U _ _ _ _ (@hv _ 2 _ _ (by rfl) (by walk_at "3") (by decide) (by decide)))))) a3b) (@a0b _ _ _ _ _ (@a7w _ _ _ _ _ _ a0f (@a7X _ _ _ _ _ _ (@hv _ 0 _ _ (by rfl) (by walk_at "3") (by decide) (by decide)) a0f (by intro _; rfl)) (by rfl) (by rfl) (by rfl)) (@a0b _ _ _ _ _ (@a7w _ _ _ _ _ _ (@a0q _ _ _ _ _ _ _ _ a2b (@a0q _ _ _ _ _ _ _ _ a0T (@a0q _ _ _ _ _ _ _ _ a0W (@h_ix _ _ _ _ _ _ (@hv _ 0 _ _ (by rfl) (by walk_at "3") (by decide) (by decide)) a0f (by intro _ _; rfl)) a0f) a0f) a0f) (@a7X _ _ _ _ _ _ (@hv _ 0 _ _ (by rfl) (by walk_at "3") (by decide) (by decide)) a0f (by intro _; rfl)) (by rfl) (by rfl) (by rfl)) (@a0b _ _ _ _ _ (@a0D _ _ _ _ 3 _ _ (@a0q _ _ _ _ _ _ _ _ a2b (@a0q _ _ _ _ _ _ _ _ a0T (@a0q _ _ _ _ _ _ _ _ a0W (@h_ix _ _ _ _ _ _ (@hv _ 0 _ _ (by rfl) (by walk_at "3") (by decide) (by decide)) a0f (by intro _ _; rfl)) (@h_ix _ _ _ _ _ _ (@hv _ 0 _ _ (by rfl) (by walk_at "3") (by decide) (by decide)) a0f (by intro _ _; rfl))) (@a0q _ _ _ _ _ _ _ _ a0W a0f (@h_ix _ _ _ _ _ _ (@hv _ 0 _ _ (by rfl) (by walk_at "3") (by decide) (by decide)) a0f (by intro _ _; rfl)))) a0f) a2k.nd (by rfl) (by walk_at "2") (by rfl) (by walk_at "4")) (@a0b _ _ _ _ _ (@a0D _ _ _ _ 3 _ _ (@a0q _ _ _ _ _ _ _ _ a2b (@a0q _ _ _ _ _ _ _ _ a0T (@a0q _ _ _ _ _ _ _ _ a0W (@hv _ 3 _ _ (by rfl) (by walk_at "3") (by decide) (by decide)) (@hv _ 3 _ _ (by rfl) (by walk_at "3") (by decide) (by decide))) (@a0q _ _ _ _ _ _ _ _ a0W a0f (@hv _ 3 _ _ (by rfl) (by walk_at "3") (by decide) (by decide)))) a0f) a2k.nd (by rfl) (by walk_at "2") (by rfl) (by walk_at "4")) (@a0j _ _ _ (@a0U _ _ _ _ (@a0q _ _ _ _ _ _ _ _ a2b (@a0q _ _ _ _ _ _ _ _ a3O (@hv _ 3 _ _ (by rfl) (by walk_at "3") (by decide) (by decide)) a0f) (@hv _ 1 _ _ (by rfl) (by walk_at "3") (by decide) (by decide)))))))))), fun ts M Q h => ?_⟩
 unfold a1B at h
 split at h
 ·rename_i p m
  obtain ⟨s, f, hM, h0, h1, h⟩ := h
  refine a0i fun K1 hK1 => ?_
  have hk : K1 [some (.adr p), some (.int m), none, none] M := by
   rw [hK1]
   clear hK1
   walk_at "rd"
   simp only [hM]
   walk_at "rd"
   have i1 : ixN (0 + 1 + 1) 1 = some 1 := by decide
   simp only [i1]
   exact ⟨.inr ⟨by decide, by decide⟩, by decide, b0i (by decide) (by decide), .inl ⟨by decide, by decide⟩, by decide, b0i (by decide) (by decide), .inl ⟨by decide, by decide⟩, by decide, b3a (by decide) (by decide), h0,
    a0n (h _ _ _ (Int.emod_nonneg _ (Int.ne_of_gt h0)) (Int.emod_lt_of_pos _ h0))⟩
  walk_at "rd"
  simp only [hM]
  walk_at "rd"
  have i0 : ixN 2 0 = some 0 := by decide
  exact ite2 (fun c => ite2 (fun c2 => ⟨h0, b3a h0 (by lia), a0n (h _ _ _ (Int.emod_nonneg _ (Int.ne_of_gt h0)) (Int.emod_lt_of_pos _ h0))⟩) (fun c2 => hk)) (fun c => hk)
 ·exact h.elim
noncomputable def a1y : Sp3 := fun ts M Q => match ts with
 | [.adr p, .int n] => ∃ s f, M p = some (.lst [.int s, .int f]) ∧ 2 ≤ n ∧ n ≤ 6 ∧ ∀ l s' f', LetOK n l → Q (.int l) (updM M p (.lst [.int s', .int f']))
 | _ => False
theorem a5M {P w K base f fd} {mg : Str → Option Value} {n : Nat}  (F : Fun K "_law_letter" "_law_letter" a1S f fd) (hm : mg "_law_letter" = some (.ref f)) (hb : a0V K fd ["state", "strands"] []) (Z : Zs K mg) (D__law_take : Df P w K mg base n "_law_take" ["state", "many"] a1B) : Df P w K mg base (n + 1) "_law_letter" ["state", "strands"] a1y := by
 refine F.dfn hm hb a3D (by unfold a1y; walk_at "ln") ⟨_, fun cdv A outer s H E hr => (@a0b _ _ _ _ _ (@a0D _ _ _ _ 2 _ _ (@a0m _ _ _ _ _ _ _ _ _ _ D__law_take hr (@a0a _ _ _ _ _ (@hv _ 0 _ _ (by rfl) (by walk_at "3") (by decide) (by decide)) (@a0a _ _ _ _ _ (@a0q _ _ _ _ _ _ _ _ a0W a0f (@a0q _ _ _ _ _ _ _ _ a2a (@hv _ 1 _ _ (by rfl) (by walk_at "3") (by decide) (by decide)) a0f)) a0e (by rfl)) (by rfl)) (by rfl) (by decide) (by rfl) (by rfl)) a3D.nd (by rfl) (by walk_at "2") (by rfl) (by walk_at "4")) (@a0j _ _ _ (@a0U _ _ _ _ (@a0q _ _ _ _ _ _ _ _ a0W (@h_ix _ _ _ _ _ _ (@a7V _ _ _ _ (@a0a _ _ _ _ _ a0f (@a0a _ _ _ _ _ (@h_un _ _ _ _ _ _ a1G a0f) a0e (by rfl)) (by rfl))) (@a0q _ _ _ _ _ _ _ _ a2b (@hv _ 2 _ _ (by rfl) (by walk_at "3") (by decide) (by decide)) a0f) (by intro _ _; rfl)) (@a0q _ _ _ _ _ _ _ _ a0T a0f (@a0q _ _ _ _ _ _ _ _ a3O (@hv _ 2 _ _ (by rfl) (by walk_at "3") (by decide) (by decide)) a0f)))))), fun ts M Q h => ?_⟩
 unfold a1y at h
 split at h
 ·rename_i p n
  obtain ⟨s, f, hM, h0, h1, h⟩ := h
  walk_at "rd"
  refine ⟨.inl ⟨by lia, by lia⟩, s, f, hM, by lia, by lia, fun c s1 f1 c0 c1 => ?_⟩
  walk_at "rd"
  refine ⟨by decide, fun p1 hp1 => ?_⟩
  have n1 : p ≠ p1 := fun z => by rw [← z, a0d] at hp1; cases hp1
  have e1 : ∃ b : Int, (b = 1 ∨ b = -1) ∧ atI [T.int 1, T.int (-1)] (c % 2) = some (.int b) := by
   rcases (show c % 2 = 0 ∨ c % 2 = 1 by lia) with e | e
   ·rw [e]; exact ⟨1, .inl rfl, rfl⟩
   ·rw [e]; exact ⟨-1, .inr rfl, rfl⟩
  obtain ⟨b, hb, e1⟩ := e1
  simp only [e1]
  have hl : LetOK n (b * (1 + c / 2)) := by
   unfold LetOK
   rcases hb with rfl | rfl
   ·lia
   ·lia
  exact ⟨by decide, ⟨by decide, by decide⟩, .inl ⟨by lia, by lia⟩, a1Z (h _ _ _ hl) (Sub.new hp1)⟩
 ·exact h.elim
noncomputable def a1N : Sp3 := fun ts M Q => match ts with
 | [.adr p, .int most, .int longest] => ∃ s f, M p = some (.lst [.int s, .int f]) ∧ 1 ≤ most ∧ most ≤ 6 ∧ 0 ≤ longest ∧ longest ≤ 100 ∧ ∀ (n : Int) (w : List Int) s' f', 1 ≤ n → n ≤ most → (w.length : Int) ≤ longest → WordOK n w → Q (.tup [.int n, .tup (w.map .int)]) (updM M p (.lst [.int s', .int f']))
 | _ => False
theorem a6S {P w K base f fd} {mg : Str → Option Value} {n : Nat}  (F : Fun K "_law_plait" "_law_plait" a2r f fd) (hm : mg "_law_plait" = some (.ref f)) (hb : a0V K fd ["state", "most", "longest"] []) (Z : Zs K mg) (D__law_take : Df P w K mg base n "_law_take" ["state", "many"] a1B) (D__law_letter : Df P w K mg base n "_law_letter" ["state", "strands"] a1y) : Df P w K mg base (n + 1) "_law_plait" ["state", "most", "longest"] a1N := by
 refine F.dfn hm hb a1P (by unfold a1N; walk_at "ln") ⟨_, fun cdv A outer s H E hr => (@a0b _ _ _ _ _ (@a0D _ _ _ _ 3 _ _ (@a0q _ _ _ _ _ _ _ _ a0T a0f (@a0q _ _ _ _ _ _ _ _ a3O (@a0q _ _ _ _ _ _ _ _ a2b (@a0q _ _ _ _ _ _ _ _ a0T (@a0m _ _ _ _ _ _ _ _ _ _ D__law_take hr (@a0a _ _ _ _ _ (@hv _ 0 _ _ (by rfl) (by walk_at "3") (by decide) (by decide)) (@a0a _ _ _ _ _ (@a0q _ _ _ _ _ _ _ _ a0W a0f (@hv _ 1 _ _ (by rfl) (by walk_at "3") (by decide) (by decide))) a0e (by rfl)) (by rfl)) (by rfl) (by decide) (by rfl) (by rfl)) a0f) (@a0q _ _ _ _ _ _ _ _ a0W a0f (@hv _ 1 _ _ (by rfl) (by walk_at "3") (by decide) (by decide)))) a0f)) a1P.nd (by rfl) (by walk_at "2") (by rfl) (by walk_at "4")) (@a0b _ _ _ _ _ (@a0D _ _ _ _ 4 _ _ (@a7V _ _ _ _ a0e) a1P.nd (by rfl) (by walk_at "2") (by rfl) (by walk_at "4")) (@a0b _ _ _ _ _ (@a5h _ _ _ _ _ _ _ _ PassesOwn.never rfl (@a4q _ _ _ _ _ _ Z.b_range (@a0a _ _ _ _ _ (@a0q _ _ _ _ _ _ _ _ a0W (@a0m _ _ _ _ _ _ _ _ _ _ D__law_take hr (@a0a _ _ _ _ _ (@hv _ 0 _ _ (by rfl) (by walk_at "3") (by decide) (by decide)) (@a0a _ _ _ _ _ (@a0q _ _ _ _ _ _ _ _ a0T (@hv _ 2 _ _ (by rfl) (by walk_at "3") (by decide) (by decide)) a0f) a0e (by rfl)) (by rfl)) (by rfl) (by decide) (by rfl) (by rfl)) (@a2u _ _ _ _ _ _ _ _ _ b3b Z.b_int PyProof.Rows.boot_int (@a0a _ _ _ _ _ (@b6A _ _ _ _ _ _ _ _ a9G (@hv _ 3 _ _ (by rfl) (by walk_at "3") (by decide) (by decide)) a0f (@a1r _ _ (by decide) (by decide))) a0e (by rfl)) (by rfl) (by decide) (by decide) (by rfl) (by rfl))) a0e (by rfl)) (by rfl) (by rfl)) (@a1H _ _ 5 _ a1P.nd (by rfl) (by walk_at "2") (by walk_at "4")) (@a0b _ _ _ _ _ (@a3E _ _ _ _ (@a4A _ _ _ _ _ _ _ _ (@hv _ 4 _ _ (by rfl) (by walk_at "3") (by decide) (by decide)) (@a0a _ _ _ _ _ (@a0m _ _ _ _ _ _ _ _ _ _ D__law_letter hr (@a0a _ _ _ _ _ (@hv _ 0 _ _ (by rfl) (by walk_at "3") (by decide) (by decide)) (@a0a _ _ _ _ _ (@hv _ 3 _ _ (by rfl) (by walk_at "3") (by decide) (by decide)) a0e (by rfl)) (by rfl)) (by rfl) (by decide) (by rfl) (by rfl)) a0e (by rfl)) (by rfl) (by rfl) (by rfl) (by rfl) (by rfl)) (by rfl)) (@a0j _ _ _ (@s_if _ _ _ _ _ _ _ _ (@HW.ht _ _ _ (@b6Y _ _ _ _ _ _ _ (@a1D _ _ _ _ _ _ _ _ (@a6b _ hr.units) (@a0m _ _ _ _ _ _ _ _ _ _ D__law_take hr (@a0a _ _ _ _ _ (@hv _ 0 _ _ (by rfl) (by walk_at "3") (by decide) (by decide)) (@a0a _ _ _ _ _ a0f a0e (by rfl)) (by rfl)) (by rfl) (by decide) (by rfl) (by rfl)) a0f (@a1r _ _ (by decide) (by decide))) (@b4w _ _ _ _ (@a1D _ _ _ _ _ _ _ _ a9G (@a0I _ _ _ _ _ _ _ _ _ a0Q Z.b_len PySem.boot_len (@a0a _ _ _ _ _ (@hv _ 4 _ _ (by rfl) (by walk_at "3") (by decide) (by decide)) a0e (by rfl)) (by rfl) (by decide) (by decide) (by rfl) (by rfl)) a0f (@a1r _ _ (by decide) (by decide)))))) (@a0j _ _ _ (@a7w _ _ _ _ _ _ (@h_ix _ _ _ _ _ _ (@a7V _ _ _ _ (@a0a _ _ _ _ _ (@h_ix _ _ _ _ _ _ (@hv _ 4 _ _ (by rfl) (by walk_at "3") (by decide) (by decide)) (@h_un _ _ _ _ _ _ a1G a0f) (by intro _ _; rfl)) (@a0a _ _ _ _ _ (@a0q _ _ _ _ _ _ _ _ a2a a0f (@h_ix _ _ _ _ _ _ (@hv _ 4 _ _ (by rfl) (by walk_at "3") (by decide) (by decide)) (@h_un _ _ _ _ _ _ a1G a0f) (by intro _ _; rfl))) a0e (by rfl)) (by rfl))) (@a0m _ _ _ _ _ _ _ _ _ _ D__law_take hr (@a0a _ _ _ _ _ (@hv _ 0 _ _ (by rfl) (by walk_at "3") (by decide) (by decide)) (@a0a _ _ _ _ _ a0f a0e (by rfl)) (by rfl)) (by rfl) (by decide) (by rfl) (by rfl)) (by intro _ _; rfl)) (@a7X _ _ _ _ _ _ (@hv _ 4 _ _ (by rfl) (by walk_at "3") (by decide) (by decide)) (@h_un _ _ _ _ _ _ a1G a0f) (by intro _; rfl)) (by rfl) (by rfl) (by rfl))) a3b))) (by intro _; rfl)) (@a0j _ _ _ (@a0U _ _ _ _ (@a4S _ _ _ _ _ (@a0a _ _ _ _ _ (@hv _ 3 _ _ (by rfl) (by walk_at "3") (by decide) (by decide)) (@a0a _ _ _ _ _ (@a2u _ _ _ _ _ _ _ _ _ a1v Z.b_tuple PyProof.Rows.boot_tuple (@a0a _ _ _ _ _ (@hv _ 4 _ _ (by rfl) (by walk_at "3") (by decide) (by decide)) a0e (by rfl)) (by rfl) (by decide) (by decide) (by rfl) (by rfl)) a0e (by rfl)) (by rfl)))))))), fun ts M Q h => ?_⟩
 unfold a1N at h
 split at h
 ·rename_i p most longest
  obtain ⟨s, f, hM, hm1, hm2, hl0, hl1, h⟩ := h
  refine a9t fun K2 hK2 => ?_
  walk_at "rd"
  refine ⟨.inl ⟨by decide, by decide⟩, s, f, hM, by lia, by lia, fun c s1 f1 c0 c1 => ?_⟩
  refine ⟨.inl ⟨by decide, by decide⟩, by lia, ⟨by decide, by decide⟩, fun r hr => ?_⟩
  have hn : 1 ≤ 1 + (c + 1) % (12 * most) / 12 ∧ 1 + (c + 1) % (12 * most) / 12 ≤ most := by
   have e1 := Int.emod_nonneg (c + 1) (show 12 * most ≠ 0 by lia)
   have e2 := Int.emod_lt_of_pos (c + 1) (show 0 < 12 * most by lia)
   lia
  generalize 1 + (c + 1) % (12 * most) / 12 = n at hn ⊢
  have nr : p ≠ r := fun z => by rw [← z, a0d] at hr; cases hr
  have hrn : ∀ x, updM M p x r = none := fun x => by
   rw [a0x nr.symm] at hr ⊢; exact hr
  rw [hK2]
  refine a0i fun K3 hK3 => ?_
  refine a2w fun B hB => ?_
  walk_at "rd"
  refine ⟨s1, f1, by rw [a0x nr, a0d], by lia, by lia, fun c2 s2 f2 c20 c21 => ?_⟩
  have hb : ∃ k : Int, (if 1 < n then (1 : Int) else 0) = k ∧ ((k = 0) ∨ (k = 1 ∧ 2 ≤ n)) := by
   by_cases c : 1 < n
   ·exact ⟨1, if_pos c, .inr ⟨rfl, by lia⟩⟩
   ·exact ⟨0, if_neg c, .inl rfl⟩
  obtain ⟨k, ek, hb⟩ := hb
  have hS0 : Sub (updM M p (.lst [.int s2, .int f2])) (updM (updM (updM M p (MO.lst [T.int s1, T.int f1])) r (MO.lst [])) p (MO.lst [T.int s2, T.int f2])) := (Sub.new hr).set
  have hr0 : updM (updM (updM M p (MO.lst [T.int s1, T.int f1])) r (MO.lst [])) p (MO.lst [T.int s2, T.int f2]) r = some (.lst []) := by rw [a0x nr.symm, a0d]
  generalize updM (updM (updM M p (MO.lst [T.int s1, T.int f1])) r (MO.lst [])) p (MO.lst [T.int s2, T.int f2]) = M0 at hS0 hr0 ⊢
  walk_at "rd"
  rw [ek]
  have hck : 0 ≤ c2 * k ∧ c2 * k ≤ longest ∧ (0 < c2 * k → 2 ≤ n) := by
   rcases hb with rfl | ⟨rfl, h2⟩
   ·rw [Int.mul_zero]; lia
   ·rw [Int.mul_one]; lia
  have hcm : CMul c2 k := .inl ⟨by lia, by lia⟩
  generalize c2 * k = cnt at hck ⊢
  refine ⟨hcm, by lia, by lia, fun i ρ M' => ∃ a w s' f', ρ = [some (T.adr p), some (T.int most), some (T.int longest), some (T.int n), some (T.adr r), a] ∧ M' r = some (.lst (List.map T.int w)) ∧ Sub (updM M p (.lst [.int s', .int f'])) M' ∧ w.length = i ∧ WordOK n w, ⟨none, [], s2, f2, rfl, hr0, hS0, rfl, WordOK.nil⟩, fun _ _ _ _ => trivial, ?_, ?_⟩
  ·rintro i x ρ M' hx ⟨a, w, s', f', rfl, hw, hS, hwl, hok⟩
   obtain ⟨hi, rfl⟩ := a5m hx
   have hp' : M' p = some (.lst [.int s', .int f']) := hS _ _ a0d
   rw [hB]
   refine a0i fun K4 hK4 => ?_
   walk_at "rd"
   rw [hw]
   refine ⟨trivial, s', f', hp', by lia, by lia, fun l s3 f3 hl => ?_⟩
   simp only [a0x nr.symm, hw]
   have e1 : List.map T.int w ++ [T.int l] = (w ++ [l]).map T.int := by rw [List.map_append]; rfl
   rw [e1]
   have hS1 : Sub (updM M p (.lst [.int s3, .int f3])) (updM (updM M' p (.lst [.int s3, .int f3])) r (.lst ((w ++ [l]).map T.int))) := hS.set.updF (hrn _)
   have hw1 : updM (updM M' p (.lst [.int s3, .int f3])) r (.lst ((w ++ [l]).map T.int)) r = some (.lst ((w ++ [l]).map T.int)) := a0d
   generalize updM (updM M' p (.lst [.int s3, .int f3])) r (.lst ((w ++ [l]).map T.int)) = M1 at hS1 hw1 ⊢
   have hp1 : M1 p = some (.lst [.int s3, .int f3]) := hS1 _ _ a0d
   refine ⟨by rw [List.length_map]; exact a0J (by lia), ?_⟩
   have hok1 : WordOK n (w ++ [l]) := hok.append fun x hx => by rw [List.mem_singleton.mp hx]; exact hl
   rw [hK4]
   walk_at "rd"
   refine ⟨s3, f3, hp1, by decide, by decide, fun c4 s4 f4 c40 c41 => ?_⟩
   have hr2 : updM M1 p (.lst [.int s4, .int f4]) r = some (.lst ((w ++ [l]).map T.int)) := by rw [a0x nr.symm, hw1]
   have hS2 : Sub (updM M p (.lst [.int s4, .int f4])) (updM M1 p (.lst [.int s4, .int f4])) := hS1.set
   generalize updM M1 p (.lst [.int s4, .int f4]) = M2 at hr2 hS2 ⊢
   have hp2 : M2 p = some (.lst [.int s4, .int f4]) := hS2 _ _ a0d
   have hlen : (w ++ [l]).length = i + 1 := by rw [List.length_append, hwl]; rfl
   refine ⟨rfl, by rw [a3x]; lia, ite2 (fun hc => ?_) (fun hc => ⟨_, _, s4, f4, rfl, hr2, hS2, hlen, hok1⟩)⟩
   simp only [hr2]
   refine ite2 (fun hc2 => ?_) (fun hc2 => ⟨_, _, s4, f4, rfl, rfl, hS2, hlen, hok1⟩)
   rw [List.length_map, hlen] at hc2
   obtain ⟨w0, y, rfl⟩ : ∃ w0 y, w = w0 ++ [y] := by
    rcases List.eq_nil_or_concat w with e | ⟨w0, y, e⟩
    ·rw [e] at hwl; simp at hwl; lia
    ·exact ⟨w0, y, by rw [e, List.concat_eq_append]⟩
   have e2 : List.map T.int (w0 ++ [y] ++ [l]) = List.map T.int w0 ++ [T.int y, T.int l] := by simp
   have a2 : atI (List.map T.int (w0 ++ [y] ++ [l])) (-2) = some (T.int y) := by rw [e2]; exact b3h _ _ _
   have hy : LetOK n y := hok y (by simp)
   simp only [a2]
   refine ⟨by decide, fun p3 hp3 => ?_⟩
   have q1 : p ≠ p3 := fun z => by rw [← z, hp2] at hp3; cases hp3
   have q2 : r ≠ p3 := fun z => by rw [← z, hr2] at hp3; cases hp3
   refine ⟨s4, f4, by rw [a0x q1, hp2], by decide, by decide, fun c5 s5 f5 c50 c51 => ?_⟩
   have e5 : ∃ b : Int, LetOK n b ∧ atI [T.int y, T.int (0 - y)] c5 = some (.int b) := by
    rcases (show c5 = 0 ∨ c5 = 1 by lia) with rfl | rfl
    ·exact ⟨y, hy, rfl⟩
    ·exact ⟨0 - y, by unfold LetOK at hy ⊢; lia, rfl⟩
   obtain ⟨b, hbL, e5⟩ := e5
   simp only [a0x q1.symm, a0d, e5, a0x nr.symm, a0x q2, hr2]
   have ix : ixN (List.map T.int (w0 ++ [y] ++ [l])).length (-1) = some (w0.length + 1) := by
    unfold ixN
    rw [List.length_map]
    simp only [List.length_append, List.length_singleton]
    rw [if_neg (by decide), if_pos (by lia)]
    congr 1
    lia
   rw [ix]
   have e6 : (List.map T.int (w0 ++ [y] ++ [l])).set (w0.length + 1) (T.int b) = List.map T.int (w0 ++ [y] ++ [b]) := by
    rw [← List.map_set]
    congr 1
    rw [List.set_append_right _ _ (by simp)]
    simp
   dsimp only
   rw [e6]
   refine ⟨_, w0 ++ [y] ++ [b], s5, f5, rfl, rfl, ?_, by rw [List.length_append, hwl]; rfl, hok.append fun x hx => by rw [List.mem_singleton.mp hx]; exact hbL⟩
   exact ((hS2.newr hp3).set).updF (hrn _)
  ·rintro ρ M' ⟨a, w, s', f', rfl, hw, hS, hwl, hok⟩
   rw [a1m] at hwl
   rw [hK3]
   walk_at "rd"
   simp only [hw]
   exact ⟨by decide, a1Z (h n w s' f' hn.1 hn.2 (by lia) hok) hS⟩
 ·exact h.elim
noncomputable def a1L : Sp3 := fun ts M Q => match ts with
 | [.int _] => Q (.bl true) M
 | _ => False
theorem a6Q {P w K base f fd} {mg : Str → Option Value} {n : Nat}  (F : Fun K "_law_whole" "_law_whole" a2p f fd) (hm : mg "_law_whole" = some (.ref f)) (hb : a0V K fd ["found"] []) (Z : Zs K mg)  : Df P w K mg base (n + 1) "_law_whole" ["found"] a1L := by
 refine F.dfn hm hb a6z (by unfold a1L; walk_at "ln") ⟨_, fun cdv A outer s H E hr => (@a0j _ _ _ (@a0U _ _ _ _ (@b9Y _ _ _ _ _ _ _ (@b4j _ _ _ _ _ _ _ .int (@hv _ 0 _ _ (by rfl) (by walk_at "3") (by decide) (by decide)) Z.b_isinstance Z.b_int PyProof.Rows.boot_int (by intro z; cases z) (by rfl) (by rfl) (by decide) (by decide) (by rfl) (by rfl) (by rfl)) (@b9W _ _ _ _ _ (@b8C _ _ _ _ (@b4j _ _ _ _ _ _ _ .bool (@hv _ 0 _ _ (by rfl) (by walk_at "3") (by decide) (by decide)) Z.b_isinstance Z.b_bool PyProof.Rows.boot_bool (by intro z; cases z) (by rfl) (by rfl) (by decide) (by decide) (by rfl) (by rfl) (by rfl))))))), fun ts M Q h => ?_⟩
 unfold a1L at h
 split at h
 ·walk_at "rd"
  exact a0n h
 ·exact h.elim
theorem a6G : ∀ p : Po, a1h (p.map prT) = true ∧ a3R (p.map prT) ≤ 1
 | [] => ⟨rfl, by decide⟩
 | x :: p => by
   obtain ⟨a, b⟩ := a6G p
   have e : prT x = T.tup [T.int x.1, T.int x.2] := rfl
   refine ⟨?_, ?_⟩
   ·rw [List.map_cons, a5n, a, e]; rfl
   ·rw [List.map_cons, a6k, e]
    have : depT (T.tup [T.int x.1, T.int x.2]) = 1 := rfl
    rw [this]
    exact Nat.max_le.mpr ⟨Nat.le_refl 1, b⟩
noncomputable def scP (c e : Int) (p : Po) : Po := p.map fun x => (x.1 - c, e * x.2)
theorem b1j (c e : Int) : ∀ p : Po, toL (scP c e p) = toL p * toL [(-c, e)]
 | [] => by
   show toL [] = toL [] * _
   rw [show toL [] = 0 from b5i]; grind
 | x :: p => by
   have e1 : toL [(x.1 - c, e * x.2)] = toL [x] * toL [(-c, e)] := by
    rw [show ([x] : Po) = [(x.1, x.2)] from rfl, a4Y, Int.sub_eq_add_neg, Int.mul_comm x.2 e]
   show toL ((x.1 - c, e * x.2) :: scP c e p) = _
   rw [a7m, a7m x p, b1j c e p, e1]; grind
theorem b5w {c e : Int} (he : e ≠ 0) {p : Po} (h : CanP p) : CanP (scP c e p) := by
 unfold scP
 refine ⟨List.pairwise_map.mpr (h.1.imp fun z => by dsimp only; lia), fun x hx => ?_⟩
 obtain ⟨y, hy, rfl⟩ := List.mem_map.mp hx
 exact Int.mul_ne_zero he (h.2 y hy)
noncomputable def eS (t : Int) : Int := if t % 2 = 0 then 1 else -1
theorem c0b (t : Int) : eS t ≠ 0 := by unfold eS; split <;> decide
theorem b5v (n : Int) (w : List Int) : scP (3 * (w.map sgI).sum) (eS (w.map sgI).sum) (stS n.toNat w).1 = (seL n w).1 := b3J (b5w (c0b _) (stS n.toNat w).2) (by
 rw [b1j, b1i]
 unfold seL mnL eS
 rw [Int.neg_mul])
theorem b4u (k : Int) : barL (xL k) = xL (-k) := a7k k 1
theorem b6S (x : Lp) : barL (-x) = -(barL x) := by
 show barL (sgU (-1) * x) = sgU (-1) * barL x
 rw [a3V, a9k]
theorem b3f : barL dlt = dlt := by
 rw [b2N, b6P, b6S, b4u, b4u, Int.neg_neg]; grind
theorem b6Q (k : Nat) : barL (powL dlt k) = powL dlt k := by
 induction k with
 | zero => exact b6R
 | succ k ih =>
   show barL (powL dlt k * dlt) = powL dlt k * dlt
   rw [a3V, ih, b3f]
theorem b3e : ∀ (w : List Int) (f g : NF), (∀ l ∈ w, l ≠ 0) → (∀ N, barL (f N) = g N) → ∀ N, barL (phi w f N) = phi (w.map fun l => -l) g N
 | [], f, g, _, h => h
 | l :: w, f, g, hw, h => fun N => by
   have ih := b3e w f g (fun x hx => hw x (.tail _ hx)) h
   have hl := hw l (.head _)
   have es : sgI (-l) = -(sgI l) := by unfold sgI; split <;> split <;> lia
   show barL (tF l (phi w f) N) = tF (-l) (phi (w.map fun l => -l) g) N
   unfold tF
   have eu : barL (uF l.natAbs (phi w f) N) = uF l.natAbs (phi (w.map fun l => -l) g) N := by
    unfold uF
    split
    ·rw [a3V, b3f, ih]
    ·exact ih _
   rw [b3g, a3V, a3V, b4u, b4u, ih, eu, es, Int.natAbs_neg]
theorem b4K : ∀ {w : List Int}, (∀ l ∈ w, l ≠ 0) → ((w.map fun l => -l).map sgI).sum = -((w.map sgI).sum)
 | [], _ => rfl
 | l :: w, h => by
   have h1 := h l (.head _)
   have ih := b4K (w := w) fun x hx => h x (.tail _ hx)
   have es : sgI (-l) = -(sgI l) := by unfold sgI; split <;> split <;> lia
   rw [List.map_cons, List.map_cons, List.sum_cons, ih, es, List.map_cons, List.sum_cons]; lia
theorem b7w {n : Int} {w : List Int} (hw : WordOK n w) : barL (seL n w) = seL n (w.map fun l => -l) := by
 have h0 : ∀ l ∈ w, l ≠ 0 := fun l hl z => by have := hw l hl; unfold LetOK at this; rw [z] at this; exact absurd this.1 (by decide)
 unfold seL
 rw [a3V, b4K h0]
 have e1 : barL (stS n.toNat w) = stS n.toNat (w.map fun l => -l) := b3e w trF trF h0 (fun N => b6Q _) _
 have e2 : barL (mnL (w.map sgI).sum) = mnL (-((w.map sgI).sum)) := by
  generalize (w.map sgI).sum = t
  unfold mnL
  rw [a7k]
  have : (if -t % 2 = 0 then (1 : Int) else -1) = if t % 2 = 0 then 1 else -1 := by split <;> split <;> lia
  rw [this, show -(-3 * t) = -3 * -t by lia]
 rw [e1, e2]
theorem b5e (c : Int) : ∀ p : Po, co p.reverse c = co p c
 | [] => rfl
 | x :: p => by
   rw [List.reverse_cons, a1b, b5e c p]
   show co p c + ((if x.1 = c then x.2 else 0) + 0) = (if x.1 = c then x.2 else 0) + co p c
   lia
noncomputable def miP (p : Po) : Po := p.reverse.map fun x => (0 - x.1, x.2)
theorem b6o {p : Po} (h : CanP p) : CanP (miP p) := by
 unfold miP
 refine ⟨?_, fun x hx => ?_⟩
 ·rw [List.map_reverse, List.pairwise_reverse]
  exact List.pairwise_map.mpr (h.1.imp fun z => by dsimp only; lia)
 ·obtain ⟨y, hy, rfl⟩ := List.mem_map.mp hx
  exact h.2 y (List.mem_reverse.mp hy)
theorem b8l (x : Lp) : (barL x).1 = miP x.1 := (b3J (b6o x.2) (Lp.ext2 fun c => by
 rw [a3S, co_L]
 unfold miP
 rw [List.map_reverse, b5e, ← b2X]
 unfold barP
 simp only [Int.zero_sub])).symm
noncomputable def a5U : Sp3 := fun ts M Q => match ts with
 | [.rd s] => ∃ ns : List Int, s = ns.map .int ∧ Q (.bl true) M
 | _ => False
theorem b0L (ns : List Int) (M : MH) (Q : VK3) (_ : ns.length ≤ 63) (h : Q (.bl true) M) : a5U [.rd (ns.map .int)] M Q := ⟨ns, rfl, h⟩
theorem b8h {P w K base f fd} {mg : Str → Option Value} {n : Nat}  (F : Fun K "law" "law" a5J f fd) (Z : Zs K mg) (D__law_plait : Df P w K mg base n "_law_plait" ["state", "most", "longest"] a1N) (D__law_state : Df P w K mg base n "_law_state" ["script", "k"] a1M) (D_settled : Df P w K mg base n "settled" ["plait"] a2x) (D_turns : Df P w K mg base n "turns" ["plait"] a4a) (D_by_nests : Df P w K mg base n "by_nests" ["plait"] a1X) (D__law_whole : Df P w K mg base n "_law_whole" ["found"] a1L) (D_mirrored : Df P w K mg base n "mirrored" ["plait"] a2G) (D_pieces : Df P w K mg base n "pieces" ["plait"] a4c) : FnOk P w K mg base CX0 (n + 1) f fd ["script"] (dSp K a5U) := by
 refine F.fnk a4g (by unfold a5U; walk_at "ln") ⟨_, fun cdv A outer s H E hr => (@a0b _ _ _ _ _ (@a0D _ _ _ _ 1 _ _ (@a0m _ _ _ _ _ _ _ _ _ _ D__law_plait hr (@a0a _ _ _ _ _ (@a0m _ _ _ _ _ _ _ _ _ _ D__law_state hr (@a0a _ _ _ _ _ (@hv _ 0 _ _ (by rfl) (by walk_at "3") (by decide) (by decide)) (@a0a _ _ _ _ _ a0f a0e (by rfl)) (by rfl)) (by rfl) (by decide) (by rfl) (by rfl)) (@a0a _ _ _ _ _ a0f (@a0a _ _ _ _ _ a0f a0e (by rfl)) (by rfl)) (by rfl)) (by rfl) (by decide) (by rfl) (by rfl)) a4g.nd (by rfl) (by walk_at "2") (by rfl) (by walk_at "4")) (@a0b _ _ _ _ _ (@a0D _ _ _ _ 2 _ _ (@a0m _ _ _ _ _ _ _ _ _ _ D_settled hr (@a0a _ _ _ _ _ (@hv _ 1 _ _ (by rfl) (by walk_at "3") (by decide) (by decide)) a0e (by rfl)) (by rfl) (by decide) (by rfl) (by rfl)) a4g.nd (by rfl) (by walk_at "2") (by rfl) (by walk_at "4")) (@a0b _ _ _ _ _ (@a0D _ _ _ _ 3 _ _ (@a0m _ _ _ _ _ _ _ _ _ _ D_turns hr (@a0a _ _ _ _ _ (@hv _ 1 _ _ (by rfl) (by walk_at "3") (by decide) (by decide)) a0e (by rfl)) (by rfl) (by decide) (by rfl) (by rfl)) a4g.nd (by rfl) (by walk_at "2") (by rfl) (by walk_at "4")) (@a0b _ _ _ _ _ (@a0D _ _ _ _ 4 _ _ (@a2u _ _ _ _ _ _ _ _ _ a1v Z.b_tuple PyProof.Rows.boot_tuple (@a0a _ _ _ _ _ (@a3G _ _ _ _ _ _ _ _ _ _ _ _ _ _ rfl (@a4y _ _ _ _ (@a0m _ _ _ _ _ _ _ _ _ _ D_by_nests hr (@a0a _ _ _ _ _ (@hv _ 1 _ _ (by rfl) (by walk_at "3") (by decide) (by decide)) a0e (by rfl)) (by rfl) (by decide) (by rfl) (by rfl))) (@a1d _ (a0c a5J) _ (["script", "plait", "found", "signs", "due", "one", "total", "piece"]) (["power", "count", "signs"]) ([none, none, some 3]) (by decide +kernel) rfl rfl) a9j (fun _ _ _ _ _ => a9y rfl (@a2P _ _ _ _ _ (@a1n _ _ 0 _ (show List.Nodup (["power", "count", "signs"] : List Str) by decide +kernel) rfl (Or.inl rfl) (Or.inr rfl)) (@a2P _ _ _ _ _ (@a1n _ _ 1 _ (show List.Nodup (["power", "count", "signs"] : List Str) by decide +kernel) rfl (Or.inl rfl) (Or.inr rfl)) a6I (by rfl)) (by rfl))) (fun _ _ _ _ _ => a4J) (fun _ _ _ _ _ => (@a4S _ _ _ _ _ (@a0a _ _ _ _ _ (@a0q _ _ _ _ _ _ _ _ a2a (@hv _ 0 _ _ (by rfl) (by walk_at "3") (by decide) (by decide)) (@a0q _ _ _ _ _ _ _ _ a0W a0f (@hv _ 2 _ _ (by rfl) (by walk_at "3") (by decide) (by decide)))) (@a0a _ _ _ _ _ (@a0q _ _ _ _ _ _ _ _ a0W (@h_ix _ _ _ _ _ _ (@a7V _ _ _ _ (@a0a _ _ _ _ _ a0f (@a0a _ _ _ _ _ (@h_un _ _ _ _ _ _ a1G a0f) a0e (by rfl)) (by rfl))) (@a0q _ _ _ _ _ _ _ _ a2b (@hv _ 2 _ _ (by rfl) (by walk_at "3") (by decide) (by decide)) a0f) (by intro _ _; rfl)) (@hv _ 1 _ _ (by rfl) (by walk_at "3") (by decide) (by decide))) a0e (by rfl)) (by rfl)))) (by intro _; rfl)) a0e (by rfl)) (by rfl) (by decide) (by decide) (by rfl) (by rfl)) a4g.nd (by rfl) (by walk_at "2") (by rfl) (by walk_at "4")) (@a0b _ _ _ _ _ (@s_if _ _ _ _ _ _ _ _ (@HW.ht _ _ _ (@w_or _ _ _ _ _ _ _ (@b0P _ _ _ _ (@a4z _ _ _ (@b4j _ _ _ _ _ _ _ .tup (@hv _ 2 _ _ (by rfl) (by walk_at "3") (by decide) (by decide)) Z.b_isinstance Z.b_tuple PyProof.Rows.boot_tuple (by intro z; cases z) (by rfl) (by rfl) (by decide) (by decide) (by rfl) (by rfl) (by rfl)) (by intro _; rfl))) (@b5k _ _ _ _ (@a1D _ _ _ _ _ _ _ _ (@a9E _ hr.units) (@hv _ 2 _ _ (by rfl) (by walk_at "3") (by decide) (by decide)) (@hv _ 4 _ _ (by rfl) (by walk_at "3") (by decide) (by decide)) (@a1r _ _ (by decide) (by decide)))))) (@a0j _ _ _ (@a0U _ _ _ _ h_bl)) a3b) (@a0b _ _ _ _ _ (@a5h _ _ _ _ _ _ _ _ PassesOwn.never rfl (@a4y _ _ _ _ (@hv _ 2 _ _ (by rfl) (by walk_at "3") (by decide) (by decide))) (@a1H _ _ 5 _ a4g.nd (by rfl) (by walk_at "2") (by walk_at "4")) (@a0j _ _ _ (@s_if _ _ _ _ _ _ _ _ (@HW.ht _ _ _ (@w_or _ _ _ _ _ _ _ (@b0P _ _ _ _ (@a4z _ _ _ (@b4j _ _ _ _ _ _ _ .tup (@hv _ 5 _ _ (by rfl) (by walk_at "3") (by decide) (by decide)) Z.b_isinstance Z.b_tuple PyProof.Rows.boot_tuple (by intro z; cases z) (by rfl) (by rfl) (by decide) (by decide) (by rfl) (by rfl) (by rfl)) (by intro _; rfl))) (@w_or _ _ _ _ _ _ _ (@b0P _ _ _ _ (@a4z _ _ _ (@a0m _ _ _ _ _ _ _ _ _ _ D__law_whole hr (@a0a _ _ _ _ _ (@h_ix _ _ _ _ _ _ (@hv _ 5 _ _ (by rfl) (by walk_at "3") (by decide) (by decide)) a0f (by intro _ _; rfl)) a0e (by rfl)) (by rfl) (by decide) (by rfl) (by rfl)) (by intro _; rfl))) (@b5k _ _ _ _ (@b0P _ _ _ _ (@a4z _ _ _ (@a0m _ _ _ _ _ _ _ _ _ _ D__law_whole hr (@a0a _ _ _ _ _ (@h_ix _ _ _ _ _ _ (@hv _ 5 _ _ (by rfl) (by walk_at "3") (by decide) (by decide)) a0f (by intro _ _; rfl)) a0e (by rfl)) (by rfl) (by decide) (by rfl) (by rfl)) (by intro _; rfl))))))) (@a0j _ _ _ (@a0U _ _ _ _ h_bl)) a3b)) (by intro _; rfl)) (@a0b _ _ _ _ _ (@s_if _ _ _ _ _ _ _ _ (@a1D _ _ _ _ _ _ _ _ (@a9E _ hr.units) (@a0m _ _ _ _ _ _ _ _ _ _ D_settled hr (@a0a _ _ _ _ _ (@a0m _ _ _ _ _ _ _ _ _ _ D_mirrored hr (@a0a _ _ _ _ _ (@hv _ 1 _ _ (by rfl) (by walk_at "3") (by decide) (by decide)) a0e (by rfl)) (by rfl) (by decide) (by rfl) (by rfl)) a0e (by rfl)) (by rfl) (by decide) (by rfl) (by rfl)) (@a2u _ _ _ _ _ _ _ _ _ a1v Z.b_tuple PyProof.Rows.boot_tuple (@a0a _ _ _ _ _ (@a3G _ _ _ _ _ _ _ _ _ _ _ _ _ _ rfl (@a8V _ _ _ _ _ _ Z.b_reversed (@hv _ 2 _ _ (by rfl) (by walk_at "3") (by decide) (by decide)) (by rfl) (by rfl)) (@a1d _ (a0c a5J) _ (["script", "plait", "found", "signs", "due", "one", "total", "piece"]) (["power", "count"]) ([none, none]) (by decide +kernel) rfl rfl) a9j (fun _ _ _ _ _ => a9y rfl (@a2P _ _ _ _ _ (@a1n _ _ 0 _ (show List.Nodup (["power", "count"] : List Str) by decide +kernel) rfl (Or.inl rfl) (Or.inr rfl)) (@a2P _ _ _ _ _ (@a1n _ _ 1 _ (show List.Nodup (["power", "count"] : List Str) by decide +kernel) rfl (Or.inl rfl) (Or.inr rfl)) a6I (by rfl)) (by rfl))) (fun _ _ _ _ _ => a4J) (fun _ _ _ _ _ => (@a4S _ _ _ _ _ (@a0a _ _ _ _ _ (@a0q _ _ _ _ _ _ _ _ a2a a0f (@hv _ 0 _ _ (by rfl) (by walk_at "3") (by decide) (by decide))) (@a0a _ _ _ _ _ (@hv _ 1 _ _ (by rfl) (by walk_at "3") (by decide) (by decide)) a0e (by rfl)) (by rfl)))) (by intro _; rfl)) a0e (by rfl)) (by rfl) (by decide) (by decide) (by rfl) (by rfl)) (@a1r _ _ (by decide) (by decide))) (@a0j _ _ _ (@a0U _ _ _ _ h_bl)) a3b) (@a0b _ _ _ _ _ (@a0D _ _ _ _ 6 _ _ a0f a4g.nd (by rfl) (by walk_at "2") (by rfl) (by walk_at "4")) (@a0b _ _ _ _ _ (@a5h _ _ _ _ _ _ _ _ PassesOwn.never rfl (@a4y _ _ _ _ (@a8X _ _ _ _ _ _ _ _ _ (@a0m _ _ _ _ _ _ _ _ _ _ D_pieces hr (@a0a _ _ _ _ _ (@hv _ 1 _ _ (by rfl) (by walk_at "3") (by decide) (by decide)) a0e (by rfl)) (by rfl) (by decide) (by rfl) (by rfl)) (@b1Y _ _ _ a0f) b1Z)) (@a1H _ _ 7 _ a4g.nd (by rfl) (by walk_at "2") (by walk_at "4")) (@a0j _ _ _ (@a0D _ _ _ _ 6 _ _ (@a0q _ _ _ _ _ _ _ _ a0W (@hv _ 6 _ _ (by rfl) (by walk_at "3") (by decide) (by decide)) (@h_un _ _ _ _ _ _ a1G a0f)) a4g.nd (by rfl) (by walk_at "2") (by rfl) (by walk_at "4"))) (by intro _; rfl)) (@a0j _ _ _ (@a0U _ _ _ _ (@b6A _ _ _ _ _ _ _ _ (@a6b _ hr.units) (@a0I _ _ _ _ _ _ _ _ _ (@a8i _ rfl) Z.b_sum PyProof.Rows.boot_sum (@a0a _ _ _ _ _ (@a3G _ _ _ _ _ _ _ _ _ _ _ _ _ _ rfl (@a4y _ _ _ _ (@hv _ 2 _ _ (by rfl) (by walk_at "3") (by decide) (by decide))) (@a1d _ (a0c a5J) _ (["script", "plait", "found", "signs", "due", "one", "total", "piece"]) (["power", "count"]) ([none, none]) (by decide +kernel) rfl rfl) a9j (fun _ _ _ _ _ => a9y rfl (@a2P _ _ _ _ _ (@a1n _ _ 0 _ (show List.Nodup (["power", "count"] : List Str) by decide +kernel) rfl (Or.inl rfl) (Or.inr rfl)) (@a2P _ _ _ _ _ (@a1n _ _ 1 _ (show List.Nodup (["power", "count"] : List Str) by decide +kernel) rfl (Or.inl rfl) (Or.inr rfl)) a6I (by rfl)) (by rfl))) (fun _ _ _ _ _ => a4J) (fun _ _ _ _ _ => (@hv _ 1 _ _ (by rfl) (by walk_at "3") (by decide) (by decide))) (by intro _; rfl)) a0e (by rfl)) (by rfl) (by decide) (by decide) (by rfl) (by rfl)) (@hv _ 6 _ _ (by rfl) (by walk_at "3") (by decide) (by decide)) (@a1r _ _ (by decide) (by decide)))))))))))))), fun ts M Q h => ?_⟩
 unfold a5U at h
 split at h
 ·rename_i s
  obtain ⟨ns, rfl, h⟩ := h
  refine a0i fun K1 hK1 => ?_
  walk_at "rd"
  refine ⟨ns, rfl, by decide, by decide, fun p k f hp => ?_⟩
  have hS := Sub.new hp (o := .lst [.int k, .int f])
  have hMp : (updM M p (.lst [.int k, .int f])) p = some (.lst [.int k, .int f]) := a0d
  generalize updM M p (.lst [.int k, .int f]) = M0 at hS hMp ⊢
  refine ⟨k, f, hMp, by decide, by decide, by decide, by decide, fun n w k1 f1 h1 h2 hl hw => ?_⟩
  have hS1 := hS.updF hp (o := .lst [.int k1, .int f1])
  have hMp1 : (updM M0 p (.lst [.int k1, .int f1])) p = some (.lst [.int k1, .int f1]) := a0d
  generalize updM M0 p (.lst [.int k1, .int f1]) = M1 at hS1 hMp1 ⊢
  clear hS hMp
  dsimp only
  rw [hK1]; clear hK1
  have ok : PlOK n w := ⟨by lia, by lia, by lia, hw⟩
  refine a0i fun K2 hK2 => ?_
  walk_at "rd"
  refine ⟨w, rfl, ok, fun M2 hS2 => ?_⟩
  have hS3 := hS1.trans hS2
  clear hS1 hS2 hMp1
  rw [hK2]; clear hK2
  refine a0i fun K3 hK3 => ?_
  walk_at "rd"
  refine ⟨w, rfl, ok, fun M3 hS => ?_⟩
  have hS4 := hS3.trans hS
  clear hS3 hS
  rw [hK3]; clear hK3
  refine a0i fun K4 hK4 => ?_
  walk_at "rd"
  refine ⟨w, rfl, ok, fun M4 hS => ?_⟩
  have hS5 := hS4.trans hS
  clear hS4 hS
  have hsg : (w.map sgI).sum.natAbs ≤ 10 := by
   have key : ∀ w : List Int, ((w.map sgI).sum).natAbs ≤ w.length := by
    intro w
    induction w with
    | nil => exact Nat.le_refl _
    | cons l w ih =>
      rw [List.map_cons, List.sum_cons, List.length_cons]
      have : sgI l = 1 ∨ sgI l = -1 := by unfold sgI; split <;> simp
      lia
   have := key w
   lia
  have hlist := b5v n w
  have hgd := a9q ⟨by lia, by lia⟩ (a8S hw)
  have hpl := hgd.len
  generalize ht : (w.map sgI).sum = t at hsg hlist ⊢
  unfold poT
  dsimp only
  refine ⟨fun i ys M' => ys = (scP (3 * t) (eS t) ((stS n.toNat w).1.take i)).map prT ∧ Sub M M', ⟨rfl, hS5⟩, fun _ _ _ _ => trivial, a0J (by rw [List.length_map]; lia), ?_, ?_⟩
  ·rintro i x ys M' hx ⟨rfl, hS⟩
   rw [List.getElem?_map] at hx
   obtain ⟨y, hy, rfl⟩ := Option.map_eq_some_iff.mp hx
   refine ⟨rfl, rfl, .inl ⟨by decide, by decide⟩, by decide, fun q hq => ⟨by decide, ?_⟩⟩
   have e0 : atI [T.int 1, T.int (-1)] (t % 2) = some (.int (eS t)) := by
    have : t % 2 = 0 ∨ t % 2 = 1 := by lia
    unfold eS
    rcases this with z | z
    ·rw [z]; rfl
    ·rw [z]; rfl
   rw [e0]
   dsimp only
   refine ⟨.inl (by unfold eS; split <;> exact ⟨by decide, by decide⟩), by decide, ?_, hS.newr hq⟩
   unfold scP
   rw [← a0A (fun x : Int × Int => (x.1 - 3 * t, eS t * x.2)) hy, List.map_append]; rfl
  ·rintro ys M' ⟨rfl, hS⟩ q hq
   rw [List.length_map, List.take_length, hlist]
   have hS6 := hS.newr hq (o := MO.lst ((seL n w).1.map prT))
   generalize updM M' q (MO.lst ((seL n w).1.map prT)) = M5 at hS6 ⊢
   clear hS hS5 hq
   rw [hK4]; clear hK4
   refine a0i fun K5 hK5 => ?_
   walk_at "rd"
   obtain ⟨pp, pd⟩ := a6G (seL n w).1
   refine ⟨pp, pp, by lia, ?_⟩
   rw [a5y _ pp, if_neg (by decide)]
   rw [hK5]; clear hK5
   refine a0i fun K6 hK6 => ?_
   refine a2w fun B hB => ?_
   unfold a4O
   walk_at "rd"
   refine ⟨fun i ρ M' => (∃ (x5 : Option T), ρ = [some (T.rd (List.map T.int ns)), some (T.tup [T.int n, T.tup (List.map T.int w)]), some (T.tup (List.map prT (seL n w).1)), some (T.int t), some (T.tup (List.map prT (seL n w).1)), x5, none, none]) ∧ M' = M5, ⟨⟨_, rfl⟩, rfl⟩, fun _ _ _ _ => trivial, ?_, ?_⟩
   ·rintro i x ρ M' hx ⟨⟨x5, rfl⟩, rfl⟩
    rw [List.getElem?_map] at hx
    obtain ⟨y, hy, rfl⟩ := Option.map_eq_some_iff.mp hx
    rw [hB]; clear hB
    rw [show prT y = T.tup [T.int y.1, T.int y.2] from rfl]
    walk_at "rd"
    exact ⟨⟨_, rfl⟩, rfl⟩
   ·rintro ρ M' ⟨⟨x5, rfl⟩, rfl⟩
    rw [hK6]; clear hK6
    refine a0i fun K7 hK7 => ?_
    walk_at "rd"
    refine ⟨w, rfl, ok, ?_⟩
    have okm : PlOK n (w.map fun l => -l) := ⟨ok.1, ok.2.1, by rw [List.length_map]; exact ok.2.2.1, fun x hx => by
     obtain ⟨z, hz, rfl⟩ := List.mem_map.mp hx
     exact (hw z hz).neg⟩
    have hlen : (seL n w).1.length < 9000 := by
     rw [← hlist]; unfold scP; rw [List.length_map]; lia
    show a2x [T.tup [T.int n, T.tup (List.map T.int (List.map (fun l => -l) w))]] _ _
    refine ⟨_, rfl, okm, fun M6 hS7 => ?_⟩
    have hS8 := hS6.trans hS7
    clear hS6 hS7
    rw [← b7w hw, b8l]
    refine ⟨fun i ys M' => ys = (((seL n w).1.reverse.take i).map fun x => (0 - x.1, x.2)).map prT ∧ M' = M6, ⟨rfl, rfl⟩, fun _ _ _ _ => trivial, a0J (by rw [List.length_reverse, List.length_map]; lia), ?_, ?_⟩
    ·rintro i x ys M' hx ⟨rfl, rfl⟩
     rw [← List.map_reverse, List.getElem?_map] at hx
     obtain ⟨y, hy, rfl⟩ := Option.map_eq_some_iff.mp hx
     refine ⟨rfl, rfl, by decide, ?_, rfl⟩
     rw [← a0A (fun x : Int × Int => (0 - x.1, x.2)) hy, List.map_append]; rfl
    ·rintro ys M' ⟨rfl, rfl⟩ q hq
     rw [List.length_reverse, List.length_map, ← List.length_reverse, List.take_length]
     have hS9 := hS8.newr hq (o := MO.lst (List.map prT (miP (seL n w).1)))
     obtain ⟨mp, md⟩ := a6G (miP (seL n w).1)
     have e1 : eqT (poT (miP (seL n w).1)) (T.tup (List.map prT (miP (seL n w).1))) = true := a9Y _ (by unfold poT; rw [a5o]; exact mp)
     refine ⟨by unfold poT; rw [a5o]; exact mp, mp, by unfold poT; rw [b0d]; lia, ?_⟩
     change (if eqT (poT (miP (seL n w).1)) (T.tup (List.map prT (miP (seL n w).1))) = false then _ else _)
     rw [e1, if_neg (by decide)]
     show K7 _ (updM M' q (MO.lst (List.map prT (miP (seL n w).1))))
     generalize updM M' q (MO.lst (List.map prT (miP (seL n w).1))) = M7 at hS9 ⊢
     clear hS8 hq e1
     rw [hK7]; clear hK7
     refine a0i fun K8 hK8 => ?_
     walk_at "rd"
     rw [hK8]; clear hK8
     refine a0i fun K9 hK9 => ?_
     refine a2w fun B2 hB2 => ?_
     unfold a4O
     walk_at "rd"
     refine ⟨w, rfl, ok, fun r as M8 hr hS10 hMr hLs hFr => ?_⟩
     dsimp only
     rw [hMr]
     dsimp only
     intro r2 hr2
     have hS11 := (hS9.trans hS10).newr hr2 (o := MO.lst (cutT (List.map T.adr as) (some 1) none))
     have hMr2 : (updM M8 r2 (MO.lst (cutT (List.map T.adr as) (some 1) none))) r2 = some (.lst (cutT (List.map T.adr as) (some 1) none)) := a0d
     generalize updM M8 r2 (MO.lst (cutT (List.map T.adr as) (some 1) none)) = M9 at hS11 hMr2 ⊢
     have hcl : (cutT (List.map T.adr as) (some 1) none).length = (pcs (a0o n w) n).length - 1 := by
      rw [b0X _ _ (by decide), List.length_drop, List.length_map, hLs.1]; rfl
     have hpn : (pcs (a0o n w) n).length ≤ 6 := (b7X ok.1 ok.2.1 hw).1
     refine ⟨fun i ρ M' => (∃ x7 : Option T, ρ = [some (T.rd (List.map T.int ns)), some (T.tup [T.int n, T.tup (List.map T.int w)]), some (T.tup (List.map prT (seL n w).1)), some (T.int t), some (T.tup (List.map prT (seL n w).1)), x5, some (T.int ((-2) ^ i)), x7]) ∧ M' = M9 ∧ i ≤ (pcs (a0o n w) n).length - 1, ⟨⟨_, rfl⟩, rfl, Nat.zero_le _⟩, fun _ _ _ z => by rw [z.2.1]; exact hMr2, ?_, ?_⟩
     ·rintro i x ρ M' hx ⟨⟨x7, rfl⟩, rfl, hi⟩
      have hi2 := (List.getElem?_eq_some_iff.mp hx).1
      rw [hB2]; clear hB2
      walk_at "rd"
      exact ⟨.inr ⟨by decide, by decide⟩, ⟨some x, by rw [Int.pow_succ]⟩, by lia⟩
     ·rintro ρ M' ⟨⟨x7, rfl⟩, eM, hi⟩
      subst eM
      rw [hK9]; clear hK9
      walk_at "rd"
      rw [hcl]
      refine ⟨fun i ys M' => ys = (((seL n w).1.take i).map Prod.snd).map T.int ∧ Sub M M', ⟨rfl, hS11⟩, fun _ _ _ _ => trivial, a0J (by lia), ?_, ?_⟩
      ·rintro i x ys M' hx ⟨rfl, hSz⟩
       rw [List.getElem?_map] at hx
       obtain ⟨y, hy, rfl⟩ := Option.map_eq_some_iff.mp hx
       refine ⟨rfl, rfl, ?_, hSz⟩
       rw [← a0A Prod.snd hy, List.map_append]; rfl
      ·rintro ys M' ⟨rfl, hSz⟩ q3 hq3
       rw [List.take_length, a4p]
       dsimp only
       rw [b3p ok, decide_eq_true rfl]
       exact a1Z h (hSz.newr hq3)
 ·exact h.elim
theorem Df.u {P w K mg base n m x ps sp} (D : Df P w K mg base n x ps sp) (h : n ≤ m := by decide) : Df P w K mg base m x ps sp := D.mono h
noncomputable abbrev RwA (K : PySem.W.Frag) (x : Str) (f : Addr) : Prop := PySem.W.nsIn K mainGlobals x = some (some (.ref f))
noncomputable abbrev RwL (K : PySem.W.Frag) (x : Str) (s : Stmt) (f : Addr) (oc : Value) (od : Option Addr) (kV dc pm : Value) (an : Option Addr) (cd ct : Value) (sl : Array (Option Value)) : Prop := K.lookup f = some ⟨oc, od, .func (PySem.W.fnOf x x (a4E s) (a2U s) (a0c s) .none kV dc pm an cd ct), sl⟩
noncomputable abbrev RwC (K : PySem.W.Frag) (cd : Value) (x : Str) : Prop := PySem.W.codeIn K cd x = true
noncomputable abbrev RwK (K : PySem.W.Frag) (f : Addr) : Prop := PySem.W.keepIn K (.ref f) = true
theorem b8V {l : PySem.W.OpenLaw} {w : World} {K : PySem.W.Frag} {h : Heap} {mg : Str → Option Value} {fa f1 f2 f3 f4 f5 f6 f7 f8 f9 f10 f11 f12 f13 f14 f15 f16 f17 f18 f19 f20 f21 f22 f23 f24 f25 f26 f27 f28 f29 f30 : Addr} (X : K.In h) (G : h.Ns mainGlobals mg) (hfa : mg "law" = some (.ref fa))
  {od1 od2 od3 od4 od5 od6 od7 od8 od9 od10 od11 od12 od13 od14 od15 od16 od17 od18 od19 od20 od21 od22 od23 od24 od25 od26 od27 od28 od29 od30 an1 an2 an3 an4 an5 an6 an7 an8 an9 an10 an11 an12 an13 an14 an15 an16 an17 an18 an19 an20 an21 an22 an23 an24 an25 an26 an27 an28 an29 an30 : Option Addr} {sl1 sl2 sl3 sl4 sl5 sl6 sl7 sl8 sl9 sl10 sl11 sl12 sl13 sl14 sl15 sl16 sl17 sl18 sl19 sl20 sl21 sl22 sl23 sl24 sl25 sl26 sl27 sl28 sl29 sl30 : Array (Option Value)} {oc1 oc2 oc3 oc4 oc5 oc6 oc7 oc8 oc9 oc10 oc11 oc12 oc13 oc14 oc15 oc16 oc17 oc18 oc19 oc20 oc21 oc22 oc23 oc24 oc25 oc26 oc27 oc28 oc29 oc30 kV1 kV2 kV3 kV4 kV5 kV6 kV7 kV8 kV9 kV10 kV11 kV12 kV13 kV14 kV15 kV16 kV17 kV18 kV19 kV20 kV21 kV22 kV23 kV24 kV25 kV26 kV27 kV28 kV29 kV30 dc1 dc2 dc3 dc4 dc5 dc6 dc7 dc8 dc9 dc10 dc11 dc12 dc13 dc14 dc15 dc16 dc17 dc18 dc19 dc20 dc21 dc22 dc23 dc24 dc25 dc26 dc27 dc28 dc29 dc30 pm1 pm2 pm3 pm4 pm5 pm6 pm7 pm8 pm9 pm10 pm11 pm12 pm13 pm14 pm15 pm16 pm17 pm18 pm19 pm20 pm21 pm22 pm23 pm24 pm25 pm26 pm27 pm28 pm29 pm30 cd1 cd2 cd3 cd4 cd5 cd6 cd7 cd8 cd9 cd10 cd11 cd12 cd13 cd14 cd15 cd16 cd17 cd18 cd19 cd20 cd21 cd22 cd23 cd24 cd25 cd26 cd27 cd28 cd29 cd30 ct1 ct2 ct3 ct4 ct5 ct6 ct7 ct8 ct9 ct10 ct11 ct12 ct13 ct14 ct15 ct16 ct17 ct18 ct19 ct20 ct21 ct22 ct23 ct24 ct25 ct26 ct27 ct28 ct29 ct30 : Value}
  (a1 : RwA K "is_letter" f1) (l1 : RwL K "is_letter" a2L f1 oc1 od1 kV1 dc1 pm1 an1 cd1 ct1 sl1) (c1 : RwC K cd1 "is_letter") (k1 : RwK K f1)
  (a2 : RwA K "is_word" f2) (l2 : RwL K "is_word" a3d f2 oc2 od2 kV2 dc2 pm2 an2 cd2 ct2 sl2) (c2 : RwC K cd2 "is_word") (k2 : RwK K f2)
  (a3 : RwA K "is_plait" f3) (l3 : RwL K "is_plait" a3q f3 oc3 od3 kV3 dc3 pm3 an3 cd3 ct3 sl3) (c3 : RwC K cd3 "is_plait") (k3 : RwK K f3)
  (a4 : RwA K "looked" f4) (l4 : RwL K "looked" a4W f4 oc4 od4 kV4 dc4 pm4 an4 cd4 ct4 sl4) (c4 : RwC K cd4 "looked") (k4 : RwK K f4)
  (a5 : RwA K "exchanged" f5) (l5 : RwL K "exchanged" a2M f5 oc5 od5 kV5 dc5 pm5 an5 cd5 ct5 sl5) (c5 : RwC K cd5 "exchanged") (k5 : RwK K f5)
  (a6 : RwA K "places_in" f6) (l6 : RwL K "places_in" a1Y f6 oc6 od6 kV6 dc6 pm6 an6 cd6 ct6 sl6) (c6 : RwC K cd6 "places_in") (k6 : RwK K f6)
  (a7 : RwA K "mirrored" f7) (l7 : RwL K "mirrored" a2y f7 oc7 od7 kV7 dc7 pm7 an7 cd7 ct7 sl7) (c7 : RwC K cd7 "mirrored") (k7 : RwK K f7)
  (a8 : RwA K "order_of" f8) (l8 : RwL K "order_of" a3p f8 oc8 od8 kV8 dc8 pm8 an8 cd8 ct8 sl8) (c8 : RwC K cd8 "order_of") (k8 : RwK K f8)
  (a9 : RwA K "piece_from" f9) (l9 : RwL K "piece_from" a2m f9 oc9 od9 kV9 dc9 pm9 an9 cd9 ct9 sl9) (c9 : RwC K cd9 "piece_from") (k9 : RwK K f9)
  (a10 : RwA K "pieces" f10) (l10 : RwL K "pieces" a3o f10 oc10 od10 kV10 dc10 pm10 an10 cd10 ct10 sl10) (c10 : RwC K cd10 "pieces") (k10 : RwK K f10)
  (a11 : RwA K "sign_of" f11) (l11 : RwL K "sign_of" a4h f11 oc11 od11 kV11 dc11 pm11 an11 cd11 ct11 sl11) (c11 : RwC K cd11 "sign_of") (k11 : RwK K f11)
  (a12 : RwA K "turns" f12) (l12 : RwL K "turns" a5g f12 oc12 od12 kV12 dc12 pm12 an12 cd12 ct12 sl12) (c12 : RwC K cd12 "turns") (k12 : RwK K f12)
  (a13 : RwA K "without_noughts" f13) (l13 : RwL K "without_noughts" a0K f13 oc13 od13 kV13 dc13 pm13 an13 cd13 ct13 sl13) (c13 : RwC K cd13 "without_noughts") (k13 : RwK K f13)
  (a14 : RwA K "added" f14) (l14 : RwL K "added" a6A f14 oc14 od14 kV14 dc14 pm14 an14 cd14 ct14 sl14) (c14 : RwC K cd14 "added") (k14 : RwK K f14)
  (a15 : RwA K "multiplied" f15) (l15 : RwL K "multiplied" a2n f15 oc15 od15 kV15 dc15 pm15 an15 cd15 ct15 sl15) (c15 : RwC K cd15 "multiplied") (k15 : RwK K f15)
  (a16 : RwA K "loop_worths" f16) (l16 : RwL K "loop_worths" a1R f16 oc16 od16 kV16 dc16 pm16 an16 cd16 ct16 sl16) (c16 : RwC K cd16 "loop_worths") (k16 : RwK K f16)
  (a17 : RwA K "plain_nest" f17) (l17 : RwL K "plain_nest" a2l f17 oc17 od17 kV17 dc17 pm17 an17 cd17 ct17 sl17) (c17 : RwC K cd17 "plain_nest") (k17 : RwK K f17)
  (a18 : RwA K "makes_loop" f18) (l18 : RwL K "makes_loop" a2o f18 oc18 od18 kV18 dc18 pm18 an18 cd18 ct18 sl18) (c18 : RwC K cd18 "makes_loop") (k18 : RwK K f18)
  (a19 : RwA K "with_hook" f19) (l19 : RwL K "with_hook" a2K f19 oc19 od19 kV19 dc19 pm19 an19 cd19 ct19 sl19) (c19 : RwC K cd19 "with_hook") (k19 : RwK K f19)
  (a20 : RwA K "put_in" f20) (l20 : RwL K "put_in" a4V f20 oc20 od20 kV20 dc20 pm20 an20 cd20 ct20 sl20) (c20 : RwC K cd20 "put_in") (k20 : RwK K f20)
  (a21 : RwA K "with_letter" f21) (l21 : RwL K "with_letter" a1Q f21 oc21 od21 kV21 dc21 pm21 an21 cd21 ct21 sl21) (c21 : RwC K cd21 "with_letter") (k21 : RwK K f21)
  (a22 : RwA K "loops_of_nest" f22) (l22 : RwL K "loops_of_nest" a1k f22 oc22 od22 kV22 dc22 pm22 an22 cd22 ct22 sl22) (c22 : RwC K cd22 "loops_of_nest") (k22 : RwK K f22)
  (a23 : RwA K "by_nests" f23) (l23 : RwL K "by_nests" a3r f23 oc23 od23 kV23 dc23 pm23 an23 cd23 ct23 sl23) (c23 : RwC K cd23 "by_nests") (k23 : RwK K f23)
  (a24 : RwA K "settled" f24) (l24 : RwL K "settled" a4i f24 oc24 od24 kV24 dc24 pm24 an24 cd24 ct24 sl24) (c24 : RwC K cd24 "settled") (k24 : RwK K f24)
  (a25 : RwA K "_law_state" f25) (l25 : RwL K "_law_state" a2q f25 oc25 od25 kV25 dc25 pm25 an25 cd25 ct25 sl25) (c25 : RwC K cd25 "_law_state") (k25 : RwK K f25)
  (a26 : RwA K "_law_take" f26) (l26 : RwL K "_law_take" a2N f26 oc26 od26 kV26 dc26 pm26 an26 cd26 ct26 sl26) (c26 : RwC K cd26 "_law_take") (k26 : RwK K f26)
  (a27 : RwA K "_law_letter" f27) (l27 : RwL K "_law_letter" a1S f27 oc27 od27 kV27 dc27 pm27 an27 cd27 ct27 sl27) (c27 : RwC K cd27 "_law_letter") (k27 : RwK K f27)
  (a28 : RwA K "_law_plait" f28) (l28 : RwL K "_law_plait" a2r f28 oc28 od28 kV28 dc28 pm28 an28 cd28 ct28 sl28) (c28 : RwC K cd28 "_law_plait") (k28 : RwK K f28)
  (a29 : RwA K "_law_whole" f29) (l29 : RwL K "_law_whole" a2p f29 oc29 od29 kV29 dc29 pm29 an29 cd29 ct29 sl29) (c29 : RwC K cd29 "_law_whole") (k29 : RwK K f29)
  (a30 : RwA K "law" f30) (l30 : RwL K "law" a5J f30 oc30 od30 kV30 dc30 pm30 an30 cd30 ct30 sl30) (c30 : RwC K cd30 "law") (k30 : RwK K f30)
  (z_abs : PySem.W.nsIn K mainGlobals "abs" = some none)
  (z_all : PySem.W.nsIn K mainGlobals "all" = some none)
  (z_bool : PySem.W.nsIn K mainGlobals "bool" = some none)
  (z_dict : PySem.W.nsIn K mainGlobals "dict" = some none)
  (z_int : PySem.W.nsIn K mainGlobals "int" = some none)
  (z_isinstance : PySem.W.nsIn K mainGlobals "isinstance" = some none)
  (z_len : PySem.W.nsIn K mainGlobals "len" = some none)
  (z_list : PySem.W.nsIn K mainGlobals "list" = some none)
  (z_range : PySem.W.nsIn K mainGlobals "range" = some none)
  (z_reversed : PySem.W.nsIn K mainGlobals "reversed" = some none)
  (z_sorted : PySem.W.nsIn K mainGlobals "sorted" = some none)
  (z_sum : PySem.W.nsIn K mainGlobals "sum" = some none)
  (z_tuple : PySem.W.nsIn K mainGlobals "tuple" = some none)
  {u_LOOP : Addr} (g_LOOP : PySem.W.nsIn K mainGlobals "LOOP" = some (some (.ref u_LOOP)))
  {n_LOOP : Nat} {s_LOOP : Array (Option Value)} {u_LOOP_0 : Addr} {u_LOOP_1 : Addr} (l_LOOP : K.lookup u_LOOP = some ⟨.type "tuple", none, .seq #[.ref u_LOOP_0, .ref u_LOOP_1] n_LOOP, s_LOOP⟩)
  {n_LOOP_0 : Nat} {s_LOOP_0 : Array (Option Value)} {t_LOOP_0_0 : Tok} {t_LOOP_0_1 : Tok} (l_LOOP_0 : K.lookup u_LOOP_0 = some ⟨.type "tuple", none, .seq #[.int (-2) t_LOOP_0_0, .int (-1) t_LOOP_0_1] n_LOOP_0, s_LOOP_0⟩)
  {n_LOOP_1 : Nat} {s_LOOP_1 : Array (Option Value)} {t_LOOP_1_0 : Tok} {t_LOOP_1_1 : Tok} (l_LOOP_1 : K.lookup u_LOOP_1 = some ⟨.type "tuple", none, .seq #[.int (2) t_LOOP_1_0, .int (-1) t_LOOP_1_1] n_LOOP_1, s_LOOP_1⟩)
  {tk_MOST_LETTERS : Tok} (g_MOST_LETTERS : PySem.W.nsIn K mainGlobals "MOST_LETTERS" = some (some (.int 16 tk_MOST_LETTERS)))
  {tk_MOST_STRANDS : Tok} (g_MOST_STRANDS : PySem.W.nsIn K mainGlobals "MOST_STRANDS" = some (some (.int 6 tk_MOST_STRANDS)))
  {u_NOUGHT : Addr} (g_NOUGHT : PySem.W.nsIn K mainGlobals "NOUGHT" = some (some (.ref u_NOUGHT)))
  {n_NOUGHT : Nat} {s_NOUGHT : Array (Option Value)} (l_NOUGHT : K.lookup u_NOUGHT = some ⟨.type "tuple", none, .seq #[] n_NOUGHT, s_NOUGHT⟩)
  {u_ONE : Addr} (g_ONE : PySem.W.nsIn K mainGlobals "ONE" = some (some (.ref u_ONE)))
  {n_ONE : Nat} {s_ONE : Array (Option Value)} {u_ONE_0 : Addr} (l_ONE : K.lookup u_ONE = some ⟨.type "tuple", none, .seq #[.ref u_ONE_0] n_ONE, s_ONE⟩)
  {n_ONE_0 : Nat} {s_ONE_0 : Array (Option Value)} {t_ONE_0_0 : Tok} {t_ONE_0_1 : Tok} (l_ONE_0 : K.lookup u_ONE_0 = some ⟨.type "tuple", none, .seq #[.int (0) t_ONE_0_0, .int (1) t_ONE_0_1] n_ONE_0, s_ONE_0⟩)
  : ∃ fd : FuncData, (∀ (s : Shared) (v : Value), BindsTo s fd ⟨[v], []⟩ [("script", v)]) ∧ ∀ base : Heap, K.In base → base.Ns mainGlobals mg → FnOk l.prog w K mg base CX0 7 fa fd ["script"] (dSp K a5U) := by
 have e := hfa.symm.trans (PySem.W.mg_of X G a30)
 cases e
 have mo : ∀ {x : Str} {f : Addr}, RwA K x f → mg x = some (.ref f) := fun a => PySem.W.mg_of X G a
 have Z : Zs K mg := ⟨PySem.W.mg_none_of X G z_abs, PySem.W.mg_none_of X G z_all, PySem.W.mg_none_of X G z_bool, PySem.W.mg_none_of X G z_dict, PySem.W.mg_none_of X G z_int, PySem.W.mg_none_of X G z_isinstance, PySem.W.mg_none_of X G z_len, PySem.W.mg_none_of X G z_list, PySem.W.mg_none_of X G z_range, PySem.W.mg_none_of X G z_reversed, PySem.W.mg_none_of X G z_sorted, PySem.W.mg_none_of X G z_sum, PySem.W.mg_none_of X G z_tuple, ⟨u_LOOP, PySem.W.mg_of X G g_LOOP, fun H => (a2A (xs := [.ref u_LOOP_0, .ref u_LOOP_1]) l_LOOP (by show 2 ≤ 1000; decide) (.cons rfl (.cons rfl .nil)) (a0Y (a2A (xs := [.int (-2), .int (-1)]) l_LOOP_0 (by show 2 ≤ 1000; decide) (.cons ⟨_, rfl⟩ (.cons ⟨_, rfl⟩ .nil)) (a0Y a0w (a0Y a0w a2z))) (a0Y (a2A (xs := [.int (2), .int (-1)]) l_LOOP_1 (by show 2 ≤ 1000; decide) (.cons ⟨_, rfl⟩ (.cons ⟨_, rfl⟩ .nil)) (a0Y a0w (a0Y a0w a2z))) a2z)))⟩, ⟨tk_MOST_LETTERS, PySem.W.mg_of X G g_MOST_LETTERS⟩, ⟨tk_MOST_STRANDS, PySem.W.mg_of X G g_MOST_STRANDS⟩, ⟨u_NOUGHT, PySem.W.mg_of X G g_NOUGHT, fun H => (a2A (xs := []) l_NOUGHT (by show 0 ≤ 1000; decide) .nil a2z)⟩, ⟨u_ONE, PySem.W.mg_of X G g_ONE, fun H => (a2A (xs := [.ref u_ONE_0]) l_ONE (by show 1 ≤ 1000; decide) (.cons rfl .nil) (a0Y (a2A (xs := [.int (0), .int (1)]) l_ONE_0 (by show 2 ≤ 1000; decide) (.cons ⟨_, rfl⟩ (.cons ⟨_, rfl⟩ .nil)) (a0Y a0w (a0Y a0w a2z))) a2z))⟩⟩
 have F1 := a0y (st := a2L) l1 c1 k1
 have b1 := F1.binds (ps := ["strands", "letter"]) (by walk_at "b2")
 have F2 := a0y (st := a3d) l2 c2 k2
 have b2 := F2.binds (ps := ["strands", "word", "most"]) (by walk_at "b3")
 have F3 := a0y (st := a3q) l3 c3 k3
 have b3 := F3.binds (ps := ["plait"]) (by walk_at "b1")
 have F4 := a0y (st := a4W) l4 c4 k4
 have b4 := F4.binds (ps := ["plait"]) (by walk_at "b1")
 have F5 := a0y (st := a2M) l5 c5 k5
 have b5 := F5.binds (ps := ["row", "at"]) (by walk_at "b2")
 have F6 := a0y (st := a1Y) l6 c6 k6
 have b6 := F6.binds (ps := ["order"]) (by walk_at "b1")
 have F7 := a0y (st := a2y) l7 c7 k7
 have b7 := F7.binds (ps := ["plait"]) (by walk_at "b1")
 have F8 := a0y (st := a3p) l8 c8 k8
 have b8 := F8.binds (ps := ["plait"]) (by walk_at "b1")
 have F9 := a0y (st := a2m) l9 c9 k9
 have b9 := F9.binds (ps := ["order", "begin"]) (by walk_at "b2")
 have F10 := a0y (st := a3o) l10 c10 k10
 have b10 := F10.binds (ps := ["plait"]) (by walk_at "b1")
 have F11 := a0y (st := a4h) l11 c11 k11
 have b11 := F11.binds (ps := ["letter"]) (by walk_at "b1")
 have F12 := a0y (st := a5g) l12 c12 k12
 have b12 := F12.binds (ps := ["plait"]) (by walk_at "b1")
 have F13 := a0y (st := a0K) l13 c13 k13
 have b13 := F13.binds (ps := ["counts"]) (by walk_at "b1")
 have F14 := a0y (st := a6A) l14 c14 k14
 have b14 := F14.binds (ps := ["one", "other"]) (by walk_at "b2")
 have F15 := a0y (st := a2n) l15 c15 k15
 have b15 := F15.binds (ps := ["one", "other"]) (by walk_at "b2")
 have F16 := a0y (st := a1R) l16 c16 k16
 have b16 := F16.binds (ps := ["most"]) (by walk_at "b1")
 have F17 := a0y (st := a2l) l17 c17 k17
 have b17 := F17.binds (ps := ["strands"]) (by walk_at "b1")
 have F18 := a0y (st := a2o) l18 c18 k18
 have b18 := F18.binds (ps := ["nest", "number"]) (by walk_at "b2")
 have F19 := a0y (st := a2K) l19 c19 k19
 have b19 := F19.binds (ps := ["nest", "number"]) (by walk_at "b2")
 have F20 := a0y (st := a4V) l20 c20 k20
 have b20 := F20.binds (ps := ["worths", "nest", "worth"]) (by walk_at "b3")
 have F21 := a0y (st := a1Q) l21 c21 k21
 have b21 := F21.binds (ps := ["worths", "letter"]) (by walk_at "b2")
 have F22 := a0y (st := a1k) l22 c22 k22
 have b22 := F22.binds (ps := ["nest"]) (by walk_at "b1")
 have F23 := a0y (st := a3r) l23 c23 k23
 have b23 := F23.binds (ps := ["plait"]) (by walk_at "b1")
 have F24 := a0y (st := a4i) l24 c24 k24
 have b24 := F24.binds (ps := ["plait"]) (by walk_at "b1")
 have F25 := a0y (st := a2q) l25 c25 k25
 have b25 := F25.binds (ps := ["script", "k"]) (by walk_at "b2")
 have F26 := a0y (st := a2N) l26 c26 k26
 have b26 := F26.binds (ps := ["state", "many"]) (by walk_at "b2")
 have F27 := a0y (st := a1S) l27 c27 k27
 have b27 := F27.binds (ps := ["state", "strands"]) (by walk_at "b2")
 have F28 := a0y (st := a2r) l28 c28 k28
 have b28 := F28.binds (ps := ["state", "most", "longest"]) (by walk_at "b3")
 have F29 := a0y (st := a2p) l29 c29 k29
 have b29 := F29.binds (ps := ["found"]) (by walk_at "b1")
 have F30 := a0y (st := a5J) l30 c30 k30
 refine ⟨PySem.W.fnOf "law" "law" (a4E a5J) (a2U a5J) (a0c a5J) .none kV30 dc30 pm30 an30 cd30 ct30, fun s v => .of_eq rfl, fun base _ _ => ?_⟩
 have D1 := a7E (P := l.prog) (w := w) (base := base) (n := 0) F1 (mo a1) b1 Z 
 have D2 := b0G (P := l.prog) (w := w) (base := base) (n := 1) F2 (mo a2) b2 Z D1.u
 have D3 := a8N (P := l.prog) (w := w) (base := base) (n := 2) F3 (mo a3) b3 Z D2.u
 have D4 := b1W (P := l.prog) (w := w) (base := base) (n := 3) F4 (mo a4) b4 Z D3.u
 have D5 := a7F (P := l.prog) (w := w) (base := base) (n := 0) F5 (mo a5) b5 Z 
 have D6 := a7D (P := l.prog) (w := w) (base := base) (n := 0) F6 (mo a6) b6 Z 
 have D7 := a8M (P := l.prog) (w := w) (base := base) (n := 4) F7 (mo a7) b7 Z D4.u
 have D8 := a8L (P := l.prog) (w := w) (base := base) (n := 4) F8 (mo a8) b8 Z D4.u D5.u D6.u
 have D9 := a6N (P := l.prog) (w := w) (base := base) (n := 0) F9 (mo a9) b9 Z 
 have D10 := b1V (P := l.prog) (w := w) (base := base) (n := 5) F10 (mo a10) b10 Z D8.u D9.u
 have D11 := b0E (P := l.prog) (w := w) (base := base) (n := 0) F11 (mo a11) b11 Z 
 have D12 := b3W (P := l.prog) (w := w) (base := base) (n := 4) F12 (mo a12) b12 Z D4.u D11.u
 have D13 := a4l (P := l.prog) (w := w) (base := base) (n := 0) F13 (mo a13) b13 Z 
 have D14 := b3X (P := l.prog) (w := w) (base := base) (n := 1) F14 (mo a14) b14 Z D13.u
 have D15 := a6O (P := l.prog) (w := w) (base := base) (n := 1) F15 (mo a15) b15 Z D13.u
 have D16 := a5L (P := l.prog) (w := w) (base := base) (n := 2) F16 (mo a16) b16 Z D15.u
 have D17 := a6M (P := l.prog) (w := w) (base := base) (n := 0) F17 (mo a17) b17 Z 
 have D18 := a6P (P := l.prog) (w := w) (base := base) (n := 0) F18 (mo a18) b18 Z 
 have D19 := a7C (P := l.prog) (w := w) (base := base) (n := 0) F19 (mo a19) b19 Z 
 have D20 := b1U (P := l.prog) (w := w) (base := base) (n := 2) F20 (mo a20) b20 Z D14.u
 have D21 := a5K (P := l.prog) (w := w) (base := base) (n := 3) F21 (mo a21) b21 Z D11.u D20.u D15.u D18.u D19.u
 have D22 := a4P (P := l.prog) (w := w) (base := base) (n := 0) F22 (mo a22) b22 Z 
 have D23 := a8O (P := l.prog) (w := w) (base := base) (n := 4) F23 (mo a23) b23 Z D4.u D17.u D21.u D16.u D14.u D15.u D22.u
 have D24 := b0F (P := l.prog) (w := w) (base := base) (n := 5) F24 (mo a24) b24 Z D23.u D12.u D15.u
 have D25 := a6R (P := l.prog) (w := w) (base := base) (n := 0) F25 (mo a25) b25 Z 
 have D26 := a7G (P := l.prog) (w := w) (base := base) (n := 0) F26 (mo a26) b26 Z 
 have D27 := a5M (P := l.prog) (w := w) (base := base) (n := 1) F27 (mo a27) b27 Z D26.u
 have D28 := a6S (P := l.prog) (w := w) (base := base) (n := 2) F28 (mo a28) b28 Z D26.u D27.u
 have D29 := a6Q (P := l.prog) (w := w) (base := base) (n := 0) F29 (mo a29) b29 Z 
 exact b8h (n := 6) F30 Z D28.u D25.u D24.u D12.u D23.u D29.u D7.u D10.u
end L2
namespace PySem.W.Fast
theorem tw5624292168186067162:True:=⟨⟩
theorem tw16550747044754457589:True:=⟨⟩
theorem tw8770359961656754431:True:=⟨⟩
theorem tw15344977853776802887:True:=⟨⟩
theorem tw6319328736585179866:True:=⟨⟩
theorem tw2256732401911229853:True:=⟨⟩
theorem tw8467049279442419956:True:=⟨⟩
theorem tw4151692753180451864:True:=⟨⟩
theorem tw6946076005161651875:True:=⟨⟩
theorem tw6128903903389855294:True:=⟨⟩
theorem tw7929965666584383051:True:=⟨⟩
theorem tw2053074314018387712:True:=⟨⟩
theorem tw17605187658645266180:True:=⟨⟩
theorem tw5318209286197074198:True:=⟨⟩
theorem tw15980736585757344587:True:=⟨⟩
theorem tw3487387115408297791:True:=⟨⟩
theorem tw4872059516024035155:True:=⟨⟩
theorem tw2991231643696946957:True:=⟨⟩
theorem tw15849487904790477205:True:=⟨⟩
theorem tw16991348040978237490:True:=⟨⟩
theorem tw15142102972179081196:True:=⟨⟩
theorem tw4177082251852019129:True:=⟨⟩
theorem tw6670818238667614606:True:=⟨⟩
theorem tw17780259513658711844:True:=⟨⟩
theorem tw7964525899888286106:True:=⟨⟩
theorem tw16872117311236539796:True:=⟨⟩
theorem tw4888383764043144138:True:=⟨⟩
theorem tw4869215128725183030:True:=⟨⟩
theorem tw16296271785810159654:True:=⟨⟩
theorem tw15365073032756207145:True:=⟨⟩
theorem tw15150559582235650459:True:=⟨⟩
theorem tw14105832451339199705:True:=⟨⟩
theorem tw4692055049712077079:True:=⟨⟩
theorem tw581254339951923077:True:=⟨⟩
theorem tw15584296311684951579:True:=⟨⟩
theorem tw4765363140103027459:True:=⟨⟩
theorem tw9124676625168389141:True:=⟨⟩
theorem tw16543008031354516668:True:=⟨⟩
theorem tw1182349961500319901:True:=⟨⟩
theorem tw17216039187037563737:True:=⟨⟩
theorem tw12490855389983045792:True:=⟨⟩
theorem tw13357973244428647627:True:=⟨⟩
theorem tw3317940218459690602:True:=⟨⟩
theorem tw689748893771379966:True:=⟨⟩
theorem tw5828427798669426636:True:=⟨⟩
theorem tw1232050655807463737:True:=⟨⟩
theorem tw8159264554106811999:True:=⟨⟩
theorem tw4853740987705398756:True:=⟨⟩
theorem tw11408274703105008967:True:=⟨⟩
theorem tw13349826305822874696:True:=⟨⟩
theorem tw12469644685324361961:True:=⟨⟩
theorem tw16137757280305806904:True:=⟨⟩
theorem tw17466292325160545464:True:=⟨⟩
theorem tw12756935652168717864:True:=⟨⟩
theorem tw5237104443737021243:True:=⟨⟩
theorem tw8396811488409138159:True:=⟨⟩
theorem tw8148574090443126454:True:=⟨⟩
theorem tw11564004859953680872:True:=⟨⟩
theorem tw870192922597404739:True:=⟨⟩
theorem tw13833688199955207512:True:=⟨⟩
theorem tw13590971922154054404:True:=⟨⟩
theorem tw3339062606682746450:True:=⟨⟩
theorem tw192388531529069934:True:=⟨⟩
theorem tw261792082041292043:True:=⟨⟩
theorem tw1220117869383540496:True:=⟨⟩
theorem tw13992801970285829853:True:=⟨⟩
theorem tw5673742663253036078:True:=⟨⟩
theorem tw9146062225969745307:True:=⟨⟩
theorem tw16176417754507079444:True:=⟨⟩
theorem tw3917229026759093460:True:=⟨⟩
theorem tw16411023870047904867:True:=⟨⟩
theorem tw8970373215649034863:True:=⟨⟩
theorem tw12659975803210028485:True:=⟨⟩
theorem tw9309687387750429187:True:=⟨⟩
theorem tw1665371171775424456:True:=⟨⟩
theorem tw904055305747069105:True:=⟨⟩
theorem tw1205831503143239659:True:=⟨⟩
theorem tw4301001965769671010:True:=⟨⟩
theorem tw12512203190613295834:True:=⟨⟩
theorem tw3320731971680896354:True:=⟨⟩
theorem tw4480766325556251309:True:=⟨⟩
theorem tw4213610383601907173:True:=⟨⟩
theorem tw18033803104811602979:True:=⟨⟩
theorem tw18000844582200051864:True:=⟨⟩
theorem tw5217358022931178008:True:=⟨⟩
theorem tw3903938176001893396:True:=⟨⟩
theorem tw5440021335814026091:True:=⟨⟩
theorem tw15736663363480376543:True:=⟨⟩
theorem tw16769358260332622497:True:=⟨⟩
theorem tw6859607557626846823:True:=⟨⟩
theorem tw14878570098835180385:True:=⟨⟩
theorem tw14911981355057115559:True:=⟨⟩
theorem tw6101749754688543217:True:=⟨⟩
theorem tw2119705023674934460:True:=⟨⟩
theorem tw18235736085352032400:True:=⟨⟩
theorem tw10873309032619654476:True:=⟨⟩
theorem tw1948649573343456255:True:=⟨⟩
theorem tw12876607933551757812:True:=⟨⟩
theorem tw13383756502003348282:True:=⟨⟩
theorem tw9822110758496463589:True:=⟨⟩
theorem tw17387730265474294750:True:=⟨⟩
theorem tw11395796203547721075:True:=⟨⟩
theorem tw15563326802284738252:True:=⟨⟩
theorem tw10356679933993584162:True:=⟨⟩
theorem tw14378361191231631354:True:=⟨⟩
theorem tw8493658613120351207:True:=⟨⟩
theorem tw1959640553159584685:True:=⟨⟩
theorem tw2742953718566139129:True:=⟨⟩
theorem tw7480101514036078658:True:=⟨⟩
theorem tw3081445402617110644:True:=⟨⟩
theorem tw18016840228718033801:True:=⟨⟩
theorem tw15426988216297493371:True:=⟨⟩
theorem tw1574179958450524939:True:=⟨⟩
theorem tw13701251260060952201:True:=⟨⟩
theorem tw5484104852870918254:True:=⟨⟩
theorem tw17496061349043621247:True:=⟨⟩
theorem tw7562337052768938354:True:=⟨⟩
theorem tw2959208219656548712:True:=⟨⟩
theorem tw13149442614435972796:True:=⟨⟩
theorem tw12514738010242142367:True:=⟨⟩
theorem tw6440425878180465337:True:=⟨⟩
theorem tw8399748561282654009:True:=⟨⟩
theorem tw3299481212838277522:True:=⟨⟩
theorem tw15382163688214538102:True:=⟨⟩
theorem tw6236927240861499581:True:=⟨⟩
theorem tw4036656421361523514:True:=⟨⟩
theorem tw8821103957268113420:True:=⟨⟩
theorem tw8925040067189391258:True:=⟨⟩
theorem tw5531930800636646929:True:=⟨⟩
theorem tw2748570457071999321:True:=⟨⟩
theorem tw7094959598072184023:True:=⟨⟩
theorem tw2352844633570302340:True:=⟨⟩
theorem tw17294224294033012665:True:=⟨⟩
theorem tw10573764248070674580:True:=⟨⟩
theorem tw8242681693731730091:True:=⟨⟩
theorem tw9028362696333715394:True:=⟨⟩
theorem tw18431444711715634080:True:=⟨⟩
theorem tw16665021018408863799:True:=⟨⟩
theorem tw3034524530789738866:True:=⟨⟩
theorem tw4285221986647439699:True:=⟨⟩
theorem tw16507961512162858440:True:=⟨⟩
theorem tw10223333185066144793:True:=⟨⟩
theorem tw12060675172626250152:True:=⟨⟩
theorem tw2539756736617450692:True:=⟨⟩
theorem tw18271758556886891012:True:=⟨⟩
theorem tw11004254248104908858:True:=⟨⟩
theorem tw16446578762032331639:True:=⟨⟩
theorem tw2495375316844389000:True:=⟨⟩
theorem tw2368060198784034908:True:=⟨⟩
theorem tw9316743503180179634:True:=⟨⟩
theorem tw14335051548447754906:True:=⟨⟩
theorem tw16869585155396200192:True:=⟨⟩
theorem tw7212706088985798321:True:=⟨⟩
theorem tw10961674070923941493:True:=⟨⟩
theorem tw13957490724470869455:True:=⟨⟩
theorem tw1525696724156305642:True:=⟨⟩
theorem tw12055472547232209323:True:=⟨⟩
theorem tw7435566614928070178:True:=⟨⟩
theorem tw10068672061001517424:True:=⟨⟩
theorem tw12886099954532929070:True:=⟨⟩
theorem tw14151594377362102096:True:=⟨⟩
theorem tw3197570283602037103:True:=⟨⟩
theorem tw10888290443233653259:True:=⟨⟩
theorem tw6688551086087629422:True:=⟨⟩
theorem tw6974475094677885660:True:=⟨⟩
theorem tw2764826398305663566:True:=⟨⟩
theorem tw4804931852437276532:True:=⟨⟩
theorem tw15954227704883281254:True:=⟨⟩
theorem tw14266309989465239853:True:=⟨⟩
theorem tw11537737881652865372:True:=⟨⟩
theorem tw2253198885108144707:True:=⟨⟩
theorem tw18072840478551510384:True:=⟨⟩
theorem tw54196818305844238:True:=⟨⟩
theorem tw13872983884629156482:True:=⟨⟩
theorem tw5048557891354372661:True:=⟨⟩
theorem tw3391469826889044286:True:=⟨⟩
theorem tw6208485724445789981:True:=⟨⟩
theorem tw12805940237080974528:True:=⟨⟩
theorem tw1600810426402444218:True:=⟨⟩
theorem tw10423187378075041748:True:=⟨⟩
theorem tw3164502206575297211:True:=⟨⟩
theorem tw12312449042612150234:True:=⟨⟩
theorem tw7837415400043696514:True:=⟨⟩
theorem tw678644734191388200:True:=⟨⟩
theorem tw936344267822172762:True:=⟨⟩
theorem tw579185749937307904:True:=⟨⟩
theorem tw2853886206656469666:True:=⟨⟩
theorem tw12404949260930079946:True:=⟨⟩
theorem tw5217946267924671387:True:=⟨⟩
theorem tw5054404852693049067:True:=⟨⟩
theorem tw2222539349429808211:True:=⟨⟩
theorem tw2311805265070694019:True:=⟨⟩
theorem tw15382574969312135904:True:=⟨⟩
theorem tw12048281372352723366:True:=⟨⟩
theorem tw11980159887716871096:True:=⟨⟩
theorem tw15374351614193566671:True:=⟨⟩
theorem tw16031119741380871848:True:=⟨⟩
theorem tw7692805284131731223:True:=⟨⟩
theorem tw7465104233833575693:True:=⟨⟩
theorem tw15266924167343580431:True:=⟨⟩
theorem tw4914573218491492158:True:=⟨⟩
theorem tw14071076944471342907:True:=⟨⟩
theorem tw13849643910384429727:True:=⟨⟩
theorem tw3073548273518453279:True:=⟨⟩
theorem tw9994375866787491013:True:=⟨⟩
theorem tw15637332447448542311:True:=⟨⟩
theorem tw11718036489057641345:True:=⟨⟩
theorem tw14588525585669217951:True:=⟨⟩
theorem tw10445095151878220367:True:=⟨⟩
theorem tw10511798266434766391:True:=⟨⟩
theorem tw15964369551894161687:True:=⟨⟩
theorem tw18322127079513542986:True:=⟨⟩
theorem tw3395929497554302692:True:=⟨⟩
theorem tw12000112183313116750:True:=⟨⟩
theorem tw17604925131813855553:True:=⟨⟩
theorem tw9907722093585430190:True:=⟨⟩
theorem tw13006672211661797466:True:=⟨⟩
theorem tw13412182905163523169:True:=⟨⟩
theorem tw4326372787983196885:True:=⟨⟩
theorem tw17777269929804331873:True:=⟨⟩
theorem tw4221993331294098132:True:=⟨⟩
theorem tw13102310230024615910:True:=⟨⟩
theorem tw864724290668595195:True:=⟨⟩
theorem tw5185106433435006600:True:=⟨⟩
theorem tw10741623586521456861:True:=⟨⟩
theorem tw2152632885634836481:True:=⟨⟩
theorem tw11742460626151275809:True:=⟨⟩
theorem tw2237341000494750014:True:=⟨⟩
theorem tw7525381128756243169:True:=⟨⟩
theorem tw14395778400437123924:True:=⟨⟩
theorem tw578496971280800914:True:=⟨⟩
theorem tw11843669264659797186:True:=⟨⟩
theorem tw14759037334466718845:True:=⟨⟩
theorem tw18210994430625025674:True:=⟨⟩
theorem tw7342176488984473940:True:=⟨⟩
theorem tw3348008152344185495:True:=⟨⟩
theorem tw13769518179252300426:True:=⟨⟩
theorem tw5563456824366737338:True:=⟨⟩
theorem tw2382354311508049335:True:=⟨⟩
theorem tw13824685078912973177:True:=⟨⟩
theorem tw8341437376575639563:True:=⟨⟩
theorem tw15702518636822766493:True:=⟨⟩
theorem tw3615775979360462825:True:=⟨⟩
theorem tw9454759154003649105:True:=⟨⟩
theorem tw7054386477781298847:True:=⟨⟩
theorem tw12514391175593700633:True:=⟨⟩
theorem tw889643727662238381:True:=⟨⟩
theorem tw3231344072107447762:True:=⟨⟩
theorem tw5922779390128119631:True:=⟨⟩
theorem tw16626090179744614741:True:=⟨⟩
theorem tw14418550313109337475:True:=⟨⟩
theorem tw7004809639204818894:True:=⟨⟩
theorem tw3813601321466026297:True:=⟨⟩
theorem tw16565821712200443027:True:=⟨⟩
theorem tw13624034101061865754:True:=⟨⟩
theorem tw1869661967688059332:True:=⟨⟩
theorem tw12655016914828225697:True:=⟨⟩
theorem tw4047131312363534437:True:=⟨⟩
theorem tw14907544691747911666:True:=⟨⟩
end PySem.W.Fast
open PySem PySem.W PyProof.Rows
set_option maxRecDepth 100000 in
set_option maxHeartbeats 0 in
theorem PySem.Challenge.cw_loopwright_k76_whole_settled_sums_holds : PySem.Challenge.rw_loopwright_k76_whole_settled_sums.Holds := by
 w_on; o_law; k_head; (case hw => w_witness2)
 k_fill
 refine L2.b4b (l := PySem.Challenge.rw_loopwright_k76_whole_settled_sums) (k := 7) (sp := L2.a5U) rfl rfl ⟨rfl, by decide, by decide⟩ (fun w h Y => PySem.W.kIn_of Y) L2.b0L ?F
 case F =>
  intro w mg fa h KX G hmg
  refine' L2.b8V KX G hmg ?a1 ?l1 ?c1 ?k1 ?a2 ?l2 ?c2 ?k2 ?a3 ?l3 ?c3 ?k3 ?a4 ?l4 ?c4 ?k4 ?a5 ?l5 ?c5 ?k5 ?a6 ?l6 ?c6 ?k6 ?a7 ?l7 ?c7 ?k7 ?a8 ?l8 ?c8 ?k8 ?a9 ?l9 ?c9 ?k9 ?a10 ?l10 ?c10 ?k10 ?a11 ?l11 ?c11 ?k11 ?a12 ?l12 ?c12 ?k12 ?a13 ?l13 ?c13 ?k13 ?a14 ?l14 ?c14 ?k14 ?a15 ?l15 ?c15 ?k15 ?a16 ?l16 ?c16 ?k16 ?a17 ?l17 ?c17 ?k17 ?a18 ?l18 ?c18 ?k18 ?a19 ?l19 ?c19 ?k19 ?a20 ?l20 ?c20 ?k20 ?a21 ?l21 ?c21 ?k21 ?a22 ?l22 ?c22 ?k22 ?a23 ?l23 ?c23 ?k23 ?a24 ?l24 ?c24 ?k24 ?a25 ?l25 ?c25 ?k25 ?a26 ?l26 ?c26 ?k26 ?a27 ?l27 ?c27 ?k27 ?a28 ?l28 ?c28 ?k28 ?a29 ?l29 ?c29 ?k29 ?a30 ?l30 ?c30 ?k30 ?z_abs ?z_all ?z_bool ?z_dict ?z_int ?z_isinstance ?z_len ?z_list ?z_range ?z_reversed ?z_sorted ?z_sum ?z_tuple ?g_LOOP ?l_LOOP ?l_LOOP_0 ?l_LOOP_1 ?g_MOST_LETTERS ?g_MOST_STRANDS ?g_NOUGHT ?l_NOUGHT ?g_ONE ?l_ONE ?l_ONE_0
  (case a1|l1|c1|k1|a2|l2|c2|k2|a3|l3|c3|k3|a4|l4|c4|k4|a5|l5|c5|k5|a6|l6|c6|k6|a7|l7|c7|k7|a8|l8|c8|k8|a9|l9|c9|k9|a10|l10|c10|k10|a11|l11|c11|k11|a12|l12|c12|k12|a13|l13|c13|k13|a14|l14|c14|k14|a15|l15|c15|k15|a16|l16|c16|k16|a17|l17|c17|k17|a18|l18|c18|k18|a19|l19|c19|k19|a20|l20|c20|k20|a21|l21|c21|k21|a22|l22|c22|k22|a23|l23|c23|k23|a24|l24|c24|k24|a25|l25|c25|k25|a26|l26|c26|k26|a27|l27|c27|k27|a28|l28|c28|k28|a29|l29|c29|k29|a30|l30|c30|k30|z_abs|z_all|z_bool|z_dict|z_int|z_isinstance|z_len|z_list|z_range|z_reversed|z_sorted|z_sum|z_tuple|g_LOOP|l_LOOP|l_LOOP_0|l_LOOP_1|g_MOST_LETTERS|g_MOST_STRANDS|g_NOUGHT|l_NOUGHT|g_ONE|l_ONE|l_ONE_0 => change _ = _; k_is)
