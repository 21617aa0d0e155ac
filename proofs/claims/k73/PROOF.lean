import PyProof.Rows.All
import Wide.All
import OpenK.AllK
import Wide.FinOn
import Lean
import PyProof.EqAt
import PyProof.EqKinds
import PyProof.TupleCall
import PySem.Challenge.RW_loopwright_k73_sums_over_states
set_option Elab.async false
set_option linter.all false
set_option maxRecDepth 100000
namespace L2
open PySem PySem.Spec PyProof.Rows
noncomputable abbrev Key := Sum Int Str
noncomputable def a5D : Key → Value → Bool
 | .inl k, v => Value.isInt k v
 | .inr x, v => Value.isStrOf x v
noncomputable def keyH (w : World) : Key → Int
 | .inl k => hashInt k
 | .inr x => hashStr w x
theorem a0I : ∀ {k : Key} {v : Value}, a5D k v = true → (∃ i t, k = Sum.inl i ∧ v = Value.int i t) ∨ (∃ x t, k = Sum.inr x ∧ v = Value.str x t)
 | .inl i, v, h => by
   obtain ⟨t, e⟩ := Value.isInt_shape (k := i) (v := v) h
   exact .inl ⟨i, t, rfl, e⟩
 | .inr x, v, h => by
   obtain ⟨t, e⟩ := Value.isStrOf_shape (x := x) (v := v) h
   exact .inr ⟨x, t, rfl, e⟩
theorem a7x (i : Int) (t : Tok) : a5D (.inl i) (.int i t) = true := by simp [a5D, Value.isInt]
theorem a7w (x : Str) (t : Tok) : a5D (.inr x) (.str x t) = true := by simp [a5D, Value.isStrOf]
theorem b7t (a b : Int) : decide ((Sum.inl a : Key) = Sum.inl b) = (a == b) := by
 by_cases e : a = b
 ·subst e; simp
 ·have h : ¬ (Sum.inl a : Key) = Sum.inl b := fun q => e (Sum.inl.inj q)
  rw [decide_eq_false h]
  exact (beq_eq_false_iff_ne.mpr e).symm
theorem b7q (a b : Str) : decide ((Sum.inr a : Key) = Sum.inr b) = decide (a = b) := by
 by_cases e : a = b
 ·subst e; simp
 ·have h : ¬ (Sum.inr a : Key) = Sum.inr b := fun q => e (Sum.inr.inj q)
  rw [decide_eq_false h, decide_eq_false e]
theorem b7s (a : Int) (b : Str) : decide ((Sum.inl a : Key) = Sum.inr b) = false := decide_eq_false (fun q => nomatch q)
theorem b7r (a : Str) (b : Int) : decide ((Sum.inr a : Key) = Sum.inl b) = false := decide_eq_false (fun q => nomatch q)
noncomputable def a0F (prog : Program) (w : World) : PySem.KeyKind prog w Key where
 is := a5D
 hash := keyH w
 inj := fun v a b ha hb => by
  rcases a0I ha with ⟨i, t, rfl, rfl⟩ | ⟨x, t, rfl, rfl⟩
  ·rcases a0I hb with ⟨j, u, rfl, e⟩ | ⟨y, u, rfl, e⟩
   ·injection e with e1 _; rw [e1]
   ·exact nomatch e
  ·rcases a0I hb with ⟨j, u, rfl, e⟩ | ⟨y, u, rfl, e⟩
   ·exact nomatch e
   ·injection e with e1 _; rw [e1]
 byValue := fun k v h => by
  rcases a0I h with ⟨i, t, rfl, rfl⟩ | ⟨x, t, rfl, rfl⟩ <;> rfl
 pyHash := fun hv h => by
  rcases a0I hv with ⟨i, t, rfl, rfl⟩ | ⟨x, t, rfl, rfl⟩
  ·exact wpAny_pyHash_int h
  ·exact wpAny_pyHash_str h
 eqBool := fun hu hv h => by
  rcases a0I hu with ⟨i, t, rfl, rfl⟩ | ⟨x, t, rfl, rfl⟩
  ·rcases a0I hv with ⟨j, u, rfl, rfl⟩ | ⟨y, u, rfl, rfl⟩
   ·rw [b7t] at h; exact wpAny_eqBool_int h
   ·rw [b7s] at h; exact SeqAt.EqAt.int_str i t y u _ _ _ _ h
  ·rcases a0I hv with ⟨j, u, rfl, rfl⟩ | ⟨y, u, rfl, rfl⟩
   ·rw [b7r] at h; exact SeqAt.EqAt.str_int x t j u _ _ _ _ h
   ·rw [b7q] at h; exact wpAny_eqBool_str h
 «strs» := fun k x t v h => by
  rcases a0I h with ⟨i, u, rfl, e⟩ | ⟨y, u, rfl, e⟩
  ·exact nomatch e
  ·injection e with e1 _
   subst e1
   cases v <;> rfl
theorem a5P (prog : Program) (w : World) (k : Key) (v : Value) : (a0F prog w).is k v = a5D k v := rfl
theorem a8A (prog : Program) (w : World) (i : Int) (t : Tok) : (a0F prog w).is (.inl i) (.int i t) = true := a7x i t
theorem a8z (prog : Program) (w : World) (x : Str) (t : Tok) : (a0F prog w).is (.inr x) (.str x t) = true := a7w x t
inductive V where
 | non | bl (b : Bool) | int (i : Int) | str (x : Str) | byt (b : Array UInt8) | flt (b : UInt64) | ref (a : Addr) | ty (n : String)
 deriving DecidableEq
noncomputable def RelV : V → Value → Prop
 | .non, u => u = Value.none
 | .bl b, u => u = Value.bool b
 | .int i, u => ∃ t, u = Value.int i t
 | .str x, u => ∃ t, u = Value.str x t
 | .byt b, u => ∃ t, u = Value.bytes b t
 | .flt b, u => ∃ t, u = Value.float b t
 | .ref a, u => u = Value.ref a
 | .ty n, u => u = Value.type n
noncomputable abbrev Vals : List V → List Value → Prop := Paired RelV
theorem Vals.length {xs : List V} {us : List Value} (r : Vals xs us) : xs.length = us.length := Paired.length r
theorem Vals.get : ∀ {xs : List V} {us : List Value} {i : Nat} {x : V}, Vals xs us → xs[i]? = some x → ∃ u, us[i]? = some u ∧ RelV x u
 | _, _, _, _, .nil, e => by simp at e
 | _, _, 0, _, .cons r _, e => by simp at e; subst e; exact ⟨_, rfl, r⟩
 | _, _, i + 1, x, .cons _ t, e => by
   obtain ⟨u, h1, h2⟩ := Vals.get (i := i) (x := x) t (by simpa using e)
   exact ⟨u, by simpa using h1, h2⟩
theorem Vals.set {x : V} {u : Value} (r : RelV x u) : ∀ {xs : List V} {us : List Value} (i : Nat), Vals xs us → Vals (xs.set i x) (us.set i u)
 | _, _, _, .nil => .nil
 | _, _, 0, .cons _ t => .cons r t
 | _, _, i + 1, .cons q t => .cons q (Vals.set r i t)
theorem Vals.append : ∀ {xs ys : List V} {us ws : List Value}, Vals xs us → Vals ys ws → Vals (xs ++ ys) (us ++ ws)
 | _, _, _, _, .nil, s => s
 | _, _, _, _, .cons r t, s => .cons r (Vals.append t s)
noncomputable def RelO : Option V → Option Value → Prop
 | some v, some u => RelV v u
 | none, none => True
 | _, _ => False
noncomputable def KV {κ : Type} : List (κ × V) → List (κ × Value) → Prop := Paired fun (p : κ × V) (q : κ × Value) => p.1 = q.1 ∧ RelV p.2 q.2
noncomputable def kV : Key → V
 | .inl i => .int i
 | .inr x => .str x
inductive HO where
 /-- a list -/
 | lst (xs : List V)
 /-- a tuple (never changes) -/
 | tup (xs : List V)
 /-- a dict whose keys are ints and texts; one whose keys are tuples of ints and texts (the empty one is both) -/
 | dK (kvs : List (Key × V)) | dT (kvs : List (List Key × V))
 /-- a set of ints: its members, its size -/
 | set (S : Int → Bool) (n : Nat)
 /-- an instance of the class at C, its dict at dx, its attributes -/
 | ins (C dx : Addr) (fs : List (Str × V))
 /-- the dict of the instance at x -/
 | own (x : Addr)
 /-- the dict of an exception -/
 | xd (fs : List (Str × V))
 /-- a bound method, f of x -/
 | met (f x : Addr)
 /-- a range object lo, lo + 1, .. below hi -/
 | rng (lo hi : Int)
 /-- a thing that is known to the object (the script; a dict while a loop walks it): read, never written while it is so -/
 | frz (o : Obj) (u : HO)
 /-- a code object's table -/
 | tbl (ps : Array Value)
 /-- any other thing, by what is true of its one object (a def of one's own: SetO a S n := HO.ext fun h => ..) -/
 | ext (φ : Heap → Prop)
noncomputable abbrev Hp := Addr → Option HO
noncomputable def a2Q (h : Heap) (a : Addr) (items : Array Value) : Prop := ∃ o, h.get? a = some o ∧ o.cls = .type "tuple" ∧ o.dict = none ∧ ∃ n, o.data = .seq items n
theorem a2Q.t {h : Heap} {a : Addr} {items : Array Value} (x : a2Q h a items) : IsTup h a items := let ⟨o, e, c, _, n, d⟩ := x; ⟨o, e, c, n, d⟩
theorem a2Q.lt {h : Heap} {a : Addr} {items : Array Value} (x : a2Q h a items) : a < h.objs.size := x.t.lt
theorem a2Q.new (h : Heap) (items : Array Value) : a2Q (h.push { cls := .type "tuple", data := .seq items }) h.objs.size items := ⟨_, Heap.get?_push_size _ rfl, rfl, rfl, 0, rfl⟩
noncomputable def upd (H : Hp) (a : Addr) (o : HO) : Hp := fun b => if b = a then some o else H b
theorem a0u {H : Hp} {a : Addr} {o : HO} : upd H a o a = some o := by unfold upd; rw [if_pos rfl]
theorem a0n {H : Hp} {a b : Addr} {o : HO} (h : b ≠ a) : upd H a o b = H b := by unfold upd; rw [if_neg h]
theorem b5p {H : Hp} {a b : Addr} {o u : HO} (h : H a = some o) (h' : H b = some u) (d : o ≠ u) : a ≠ b := by
 intro e; subst e; rw [h] at h'; exact d (Option.some.inj h')
theorem a0l {H : Hp} {a b : Addr} {o : HO} (h : H a = some o) (h' : H b = none) : a ≠ b := by
 intro e; subst e; rw [h] at h'; cases h'
section
variable (P : Program) (w : World)
noncomputable def a0Q (H : Hp) (h : Heap) (a : Addr) : HO → Prop
 | .lst xs => xs.length ≤ sizeLine ∧ ∃ (its : List Value) (n : Nat), Vals xs its ∧ h.get? a = some { cls := .type "list", data := .seq its.toArray n }
 | .tup xs => xs.length ≤ sizeLine ∧ ∃ its : List Value, Vals xs its ∧ a2Q h a its.toArray
 | .dK kvs => kvs.length ≤ sizeLine ∧ (a == sysModules) = false ∧ ∃ vs, KV kvs vs ∧ h.DictOf (a0F P w) a vs
 | .dT kvs => kvs.length ≤ sizeLine ∧ (a == sysModules) = false ∧ ∃ xs : List (List Key × Addr × Value),
   Paired (fun (p : List Key × V) (q : List Key × Addr × Value) => p.1 = q.1 ∧ H q.2.1 = some (.tup (p.1.map kV)) ∧ RelV p.2 q.2.2) kvs xs ∧
   ∃ o es ep, h.get? a = some o ∧ o.ExactDict ∧ o.data = .dict es ep ∧ es.toList = xs.map (entryOfKey (tupleKind (a0F P w))) ∧ (xs.map (·.1)).Nodup
 | .set S n => h.SetOf (intKind P w) a S n
 | .ins C dx fs => H dx = some (.own a) ∧ fs.length ≤ 1000 ∧ dx ≠ a ∧ h.get? a = some (PySem.W.instObj C dx) ∧
   ∃ mA, h.Ns1 dx mA ∧ (∀ f, RelO (fs.lookup f) (mA f)) ∧ PySem.Within mA (fs.map (·.1))
 | .own _ => ∃ o, h.get? a = some o
 | .xd fs => ∃ mA, h.Ns1 a mA ∧ ∀ f, RelO (fs.lookup f) (mA f)
 | .rng lo hi => ∃ t u v, h.get? a = some { cls := .type "range", data := .fields #[.int lo t, .int hi u, .int 1 v] }
 | .frz o u => h.get? a = some o ∧ a0Q H h a u
 | .tbl ps => h.get? a = some { cls := .none, data := .fields ps }
 | .met f x => h.get? a = some (PySem.W.methodObj (.ref f) (.ref x))
 | .ext φ => φ h ∧ (∃ o, h.get? a = some o) ∧ ∀ h1 h2 : Heap, φ h1 → (∀ o, h1.get? a = some o → h2.get? a = some o) → φ h2
noncomputable def HOk (H : Hp) (h : Heap) : Prop := ∀ a o, H a = some o → a0Q P w H h a o
end
section
variable {P : Program} {w : World} {H H' : Hp} {h h' : Heap} {a : Addr} {o : HO}
theorem a0Q.lt (x : a0Q P w H h a o) : a < h.objs.size := by
 cases o with
 | lst xs => obtain ⟨_, _, _, _, e⟩ := x; exact Heap.lt_size e
 | tup xs => obtain ⟨_, _, _, p⟩ := x; exact p.lt
 | dK kvs => obtain ⟨_, _, _, _, o, _, _, e, _⟩ := x; exact Heap.lt_size e
 | dT kvs => obtain ⟨_, _, _, _, o, _, _, e, _⟩ := x; exact Heap.lt_size e
 | set S n => obtain ⟨o, _, _, _, e, _⟩ := x; exact Heap.lt_size e
 | ins C dx fs => obtain ⟨_, _, _, e, _⟩ := x; exact Heap.lt_size e
 | own y => obtain ⟨_, e⟩ := x; exact Heap.lt_size e
 | xd fs => obtain ⟨_, ⟨_, _, _, e, _⟩, _⟩ := x; exact Heap.lt_size e
 | rng lo hi => obtain ⟨_, _, _, e⟩ := x; exact Heap.lt_size e
 | frz ob u => obtain ⟨e, _⟩ := x; exact Heap.lt_size e
 | tbl ps => exact Heap.lt_size (show h.get? a = some _ from x)
 | met f y => exact Heap.lt_size (show h.get? a = some _ from x)
 | ext φ => obtain ⟨_, ⟨_, e⟩, _⟩ := x; exact Heap.lt_size e
theorem Paired.mapP {α β : Type} {F G : α → β → Prop} : ∀ {l₁ : List α} {l₂ : List β}, Paired F l₁ l₂ → (∀ a b, F a b → G a b) → Paired G l₁ l₂
 | _, _, .nil, _ => .nil
 | _, _, .cons r t, f => .cons (f _ _ r) (Paired.mapP t f)
theorem a0Q.stay (x : a0Q P w H h a o) (k : ∀ b u, (b = a ∨ H b = some (.own a)) → h.get? b = some u → h'.get? b = some u)
  (ho : ∀ b, H b = some (.own a) → H' b = some (.own a)) (ht : ∀ b xs, H b = some (.tup xs) → H' b = some (.tup xs)) : a0Q P w H' h' a o := by
 induction o with
 | lst xs => obtain ⟨z, its, n, r, e⟩ := x; exact ⟨z, its, n, r, k _ _ (.inl rfl) e⟩
 | tup xs => obtain ⟨z, its, r, ob, e, c⟩ := x; exact ⟨z, its, r, ob, k _ _ (.inl rfl) e, c⟩
 | dK kvs => obtain ⟨z, y, vs, r, ob, es, ep, e, c⟩ := x; exact ⟨z, y, vs, r, ob, es, ep, k _ _ (.inl rfl) e, c⟩
 | dT kvs =>
   obtain ⟨z, y, xs, r, ob, es, ep, e, c⟩ := x
   exact ⟨z, y, xs, Paired.mapP r fun p q z => ⟨z.1, ht _ _ z.2.1, z.2.2⟩, ob, es, ep, k _ _ (.inl rfl) e, c⟩
 | set S n => obtain ⟨ob, es, ep, t, e, c⟩ := x; exact ⟨ob, es, ep, t, k _ _ (.inl rfl) e, c⟩
 | ins C dx fs =>
   obtain ⟨d, z, ne, e, mA, ⟨od, es, ep, e2, c⟩, r⟩ := x
   exact ⟨ho _ d, z, ne, k _ _ (.inl rfl) e, mA, ⟨od, es, ep, k _ _ (.inr d) e2, c⟩, r⟩
 | own y => obtain ⟨ob, e⟩ := x; exact ⟨ob, k _ _ (.inl rfl) e⟩
 | xd fs => obtain ⟨mA, ⟨od, es, ep, e, c⟩, r⟩ := x; exact ⟨mA, ⟨od, es, ep, k _ _ (.inl rfl) e, c⟩, r⟩
 | rng lo hi => obtain ⟨t, u, v, e⟩ := x; exact ⟨t, u, v, k _ _ (.inl rfl) e⟩
 | frz ob u ih => obtain ⟨e, q⟩ := x; exact ⟨k _ _ (.inl rfl) e, ih q⟩
 | tbl ps =>
   have e : h.get? a = some { cls := .none, data := .fields ps } := x
   show h'.get? a = some { cls := .none, data := .fields ps }
   exact k a _ (.inl rfl) e
 | met f y =>
   have e : h.get? a = some (PySem.W.methodObj (.ref f) (.ref y)) := x
   show h'.get? a = some (PySem.W.methodObj (.ref f) (.ref y))
   exact k a _ (.inl rfl) e
 | ext φ => obtain ⟨p, ⟨o, e⟩, st⟩ := x; exact ⟨st _ _ p fun o q => k _ _ (.inl rfl) q, ⟨o, k _ _ (.inl rfl) e⟩, st⟩
theorem HOk.lt (x : HOk P w H h) (e : H a = some o) : a < h.objs.size := (x a o e).lt
theorem HOk.fresh (x : HOk P w H h) (e : h.objs.size ≤ a) : H a = none := by
 cases q : H a with
 | none => rfl
 | some u => exact absurd (Nat.lt_of_lt_of_le (x.lt q) e) (Nat.lt_irrefl _)
theorem HOk.kept (x : HOk P w H h) (k : ∀ b u, h.get? b = some u → h'.get? b = some u) : HOk P w H h' := fun a o e =>
 (x a o e).stay (fun b u _ q => k b u q) (fun _ q => q) fun _ _ q => q
theorem HOk.laid (x : HOk P w H h) (k : ∀ b u, h.get? b = some u → h'.get? b = some u) (hp : h.objs.size ≤ a) (new : a0Q P w (upd H a o) h' a o) : HOk P w (upd H a o) h' := fun b u e => by
 have hn := x.fresh hp
 by_cases hb : b = a
 ·subst hb; rw [a0u] at e; cases e; exact new
 ·rw [a0n hb] at e
  exact (x b u e).stay (fun c v _ q => k c v q) (fun c q => by rw [a0n (a0l q hn)]; exact q) fun c xs q => by rw [a0n (a0l q hn)]; exact q
end
noncomputable def Rd (H : Hp) (a : Addr) (u : HO) : Prop := H a = some u ∨ ∃ o, H a = some (.frz o u)
theorem Rd.of {H : Hp} {a : Addr} {u : HO} (h : H a = some u) : Rd H a u := .inl h
theorem Rd.ok {P : Program} {w : World} {H : Hp} {h : Heap} {a : Addr} {u : HO} (r : Rd H a u) (x : HOk P w H h) : a0Q P w H h a u := by
 rcases r with r | ⟨o, r⟩
 ·exact x a u r
 ·obtain ⟨_, q⟩ := x a _ r
  exact q
noncomputable def Mut : Option HO → Prop
 | some (.lst _) => True
 | some (.dK _) => True
 | some (.dT _) => True
 | some (.set _ _) => True
 | some (.ins _ _ _) => True
 | some (.ext _) => True
 | _ => False
section
variable {P : Program} {w : World} {H : Hp} {h h' : Heap} {x e : Addr} {o' : HO}
theorem HOk.write (ok : HOk P w H h) (mu : Mut (H x)) (he : e = x ∨ H e = some (.own x)) (k : ∀ b u, b ≠ e → h.get? b = some u → h'.get? b = some u) (heo : ∃ u, h'.get? e = some u)
  (new : a0Q P w (upd H x o') h' x o') : HOk P w (upd H x o') h' := fun b u q => by
 have nown : ∀ c y, H c = some (.own y) → c ≠ x := fun c y r z => by subst z; rw [r] at mu; exact mu
 have ntup : ∀ c xs, H c = some (.tup xs) → c ≠ x := fun c xs r z => by subst z; rw [r] at mu; exact mu
 by_cases hb : b = x
 ·subst hb; rw [a0u] at q; cases q; exact new
 ·rw [a0n hb] at q
  by_cases hbe : b = e
  ·have q' : H b = some (.own x) := by
    rcases he with z | z
    ·exact absurd (hbe.trans z) hb
    ·rw [hbe]; exact z
   rw [q] at q'; cases q'
   obtain ⟨v, hv⟩ := heo
   exact ⟨v, by rw [hbe]; exact hv⟩
  ·refine (ok b u q).stay (fun c v hc r => k c v ?_ r) (fun c r => by rw [a0n (nown c b r)]; exact r) fun c xs r => by rw [a0n (ntup c xs r)]; exact r
   rcases hc with rfl | hc
   ·exact hbe
   ·rintro rfl
    rcases he with z | z
    ·exact nown c b hc z
    ·rw [hc] at z; cases z; exact hb rfl
end
structure Un (fs ex : List Addr) (H H' : Hp) (h h' : Heap) : Prop where
 keep : ∀ b o, h.get? b = some o → H b = none → b ∉ fs → b ∉ ex → h'.get? b = some o
 slot : ∀ b o, h.get? b = some o → H b = none → b ∈ fs → b ∉ ex → ∃ sl, h'.get? b = some { o with slots := sl }
 free : ∀ b o, h.get? b = some o → H b = none → b ∉ ex → H' b = none
 there : ∀ b o, h.get? b = some o → b ∉ ex → ∃ o', h'.get? b = some o'
 tups : ∀ b xs, H b = some (.tup xs) → H' b = some (.tup xs)
 frzs : ∀ b o u, H b = some (.frz o u) → H' b = some (.frz o u)
 tbls : ∀ b ps, H b = some (.tbl ps) → ∃ more, H' b = some (.tbl (ps ++ more))
section
variable {fs fs' ex ex' : List Addr} {H H1 H2 : Hp} {h h1 h2 h' : Heap} {a x e : Addr} {o : HO}
theorem Un.any (u : Un fs ex H H1 h h1) {b : Addr} {ob : Obj} (q : h.get? b = some ob) (n : H b = none) (hx : b ∉ ex) : ∃ sl, h1.get? b = some { ob with slots := sl } := by
 by_cases hb : b ∈ fs
 ·exact u.slot b ob q n hb hx
 ·exact ⟨ob.slots, u.keep b ob q n hb hx⟩
theorem Un.kept (k : ∀ b u, h.get? b = some u → h'.get? b = some u) : Un fs ex H H h h' :=
 ⟨fun b ob q _ _ _ => k b ob q, fun b ob q _ _ _ => ⟨ob.slots, k b ob q⟩, fun _ _ _ n _ => n, fun b ob q _ => ⟨ob, k b ob q⟩, fun _ _ q => q, fun _ _ _ q => q, fun _ ps q => ⟨#[], by rw [q]; simp⟩⟩
theorem Un.refl : Un fs ex H H h h := Un.kept fun _ _ q => q
theorem Un.laid (k : ∀ b u, h.get? b = some u → h'.get? b = some u) (hp : h.objs.size ≤ a) (hn : H a = none) : Un fs ex H (upd H a o) h h' where
 keep := fun b u q _ _ _ => k b u q
 slot := fun b u q _ _ _ => ⟨u.slots, k b u q⟩
 free := fun b u q n _ => by rw [a0n (Nat.ne_of_lt (Nat.lt_of_lt_of_le (Heap.lt_size q) hp))]; exact n
 there := fun b u q _ => ⟨u, k b u q⟩
 tups := fun b xs q => by rw [a0n (a0l q hn)]; exact q
 frzs := fun b u xs q => by rw [a0n (a0l q hn)]; exact q
 tbls := fun b ps q => ⟨#[], by rw [a0n (a0l q hn), q]; simp⟩
theorem Un.write (mu : Mut (H x)) (he : e = x ∨ H e = some (.own x)) (k : ∀ b u, b ≠ e → h.get? b = some u → h'.get? b = some u) (heo : ∃ u, h'.get? e = some u) : Un fs ex H (upd H x o) h h' := by
 have hx : ∀ b, H b = none → b ≠ x := fun b n z => by subst z; rw [n] at mu; exact mu
 have hb : ∀ b, H b = none → b ≠ e := fun b n z => by
  subst z
  rcases he with r | r
  ·exact hx b n r
  ·rw [n] at r; cases r
 have hm : ∀ b u, H b = some u → ¬ Mut (some u) → b ≠ x := fun b u q nm z => by subst z; rw [q] at mu; exact nm mu
 refine ⟨fun b u q n _ _ => k b u (hb b n) q, fun b u q n _ _ => ⟨u.slots, k b u (hb b n) q⟩, fun b u q n _ => by rw [a0n (hx b n)]; exact n, fun b u q _ => ?_,
  fun b xs q => by rw [a0n (hm b _ q fun z => z)]; exact q, fun b u xs q => by rw [a0n (hm b _ q fun z => z)]; exact q, fun b ps q => ⟨#[], by rw [a0n (hm b _ q fun z => z), q]; simp⟩⟩
 by_cases hbe : b = e
 ·subst hbe; exact heo
 ·exact ⟨u, k b u hbe q⟩
end
noncomputable def trk (h : Heap) (H : Hp) : List Addr := (List.range h.objs.size).filter fun a => (H a).isSome
noncomputable def hidT (h : Heap) (H : Hp) : Heap := PySem.W.hideAll h (trk h H)
theorem b1W (h : Heap) (H : Hp) : (hidT h H).objs.size = h.objs.size := PySem.W.hideAll_size _ _
theorem b3y {h : Heap} {H : Hp} {b : Addr} {o : Obj} (e : h.get? b = some o) (n : H b = none) : (hidT h H).get? b = some o :=
 PySem.W.hideAll_get _ e fun hm => by
  have q : (H b).isSome = true := (List.mem_filter.mp hm).2
  rw [n] at q; simp at q
theorem b5o {h : Heap} {H : Hp} {b : Addr} {o : Obj} (e : (hidT h H).get? b = some o) : h.get? b = some o ∧ H b = none := by
 have e' : h.get? b = some o := PySem.W.of_hideAll (trk h H) e
 refine ⟨e', ?_⟩
 cases q : H b with
 | none => rfl
 | some x =>
   have hm : b ∈ trk h H := List.mem_filter.mpr ⟨List.mem_range.mpr (Heap.lt_size e'), by simp [q]⟩
   have z : (hidT h H).get? b = none := PySem.W.hideAll_none (trk h H) hm
   rw [z] at e; cases e
structure Mod (K : PySem.W.Frag) (mg : Str → Option Value) (base : Heap) : Prop where
 kin : K.In base
 glob : base.Ns mainGlobals mg
 blt : ∃ mb, base.Ns builtinsNs mb ∧ ∀ x : Str, x ≠ "__name__" → mb x = bootBuiltins x
 nolimit : base.NoLimit
structure Cx where
 prog : Program
 w : World
 K : PySem.W.Frag
 mg : Str → Option Value
 base : Heap
 A : Around
 N : List Str
 s₀ : Shared
 H₀ : Hp
 env : Env
 outer : List Env
 stack : List Env
 ex : List Addr
 fn : Str → Bool
 calm : Bool
 pn : List (Addr × Obj)
 xe : Value → Shared → Prop
noncomputable def frs (l : List Env) : List Addr := l.filterMap (·.frame)
noncomputable abbrev Cx.fs (X : Cx) : List Addr := frs X.outer
noncomputable def Vis (sc : Scope) (x : Str) : Prop := sc.names.lookup x = some .local ∨ sc.names.lookup x = some .cell ∨ sc.names.lookup x = some .free
noncomputable def Loc (sc : Scope) (x : Str) : Prop := sc.names.lookup x = some .local ∨ sc.names.lookup x = some .cell
noncomputable def Look (env : Env) (h : Heap) (m : Str → Option Value) (x : Str) (u : Value) : Prop :=
 (env.kindOf x = some .local ∧ m x = some u) ∨ ((env.kindOf x = some .cell ∨ env.kindOf x = some .free) ∧ ∃ c, env.cells.lookup x = some c ∧ h.IsCell c (some u))
structure Cx.Ok (X : Cx) : Prop where
 mod : Mod X.K X.mg X.base
 kind : X.env.scope.kind = .function
 glob : X.env.globals = mainGlobals
 blt : X.env.builtins = builtinsNs
 above : X.s₀.heap.objs.size ≤ X.env.locals
 inj : ∀ x y c, X.env.cells.lookup x = some c → X.env.cells.lookup y = some c → x = y
 has : ∀ x, (X.env.kindOf x = some .cell ∨ X.env.kindOf x = some .free) → ∃ c, X.env.cells.lookup x = some c
 cab : ∀ x c, X.fn x = true → X.env.cells.lookup x = some c → X.s₀.heap.objs.size ≤ c
 hd : X.calm = true → X.A.handled = none
 frames : X.A.frames = some X.stack
 stk : X.stack = X.outer ∨ (X.stack = X.env :: X.outer ∧ X.env.frame = some X.env.locals)
 exf : ∀ b ∈ X.ex, b ≠ X.env.locals ∧ ∀ x c, X.env.cells.lookup x = some c → c ≠ b
 bs : ∀ b o, X.base.get? b = some o → X.s₀.heap.get? b = some o ∧ X.H₀ b = none
 bsz : X.base.objs.size ≤ X.s₀.heap.objs.size
 noex : ∀ b o, X.base.get? b = some o → b ∉ X.ex
 exfs : ∀ b ∈ X.ex, b ∉ X.fs
 funs : X.s₀.heap.FunFrames X.base X.outer
 frf : ∀ b ∈ X.fs, X.H₀ b = none
structure Inv (X : Cx) (pins : List (Addr × Obj)) (σ : List (Option V)) (H : Hp) (s : Shared) : Prop where
 ok : X.Ok
 os : s.os = X.s₀.os
 bare : AllBare s.gens
 base : Un X.fs X.ex X.H₀ H X.s₀.heap s.heap
 loc : ∃ m, s.heap.Ns X.env.locals m ∧ ∀ (i : Nat) (x : Str) (v : V), X.N[i]? = some x → σ[i]? = some (some v) → Vis X.env.scope x → ∃ u, RelV v u ∧ Look X.env s.heap m x u
 cell : ∀ x c, X.env.cells.lookup x = some c → ∃ v, s.heap.IsCell c v
 free : H X.env.locals = none
 freeC : ∀ x c, X.env.cells.lookup x = some c → H c = none
 pin : ∀ p ∈ X.pn ++ pins, s.heap.get? p.1 = some p.2 ∧ H p.1 = none ∧ p.1 ≠ X.env.locals ∧ p.1 ∉ X.fs ∧ ∀ v, p.2.data ≠ .cell v
 hok : HOk X.prog X.w H s.heap
 len : σ.length = X.N.length
section
variable {X : Cx} {pins : List (Addr × Obj)} {σ : List (Option V)} {H H' : Hp} {s : Shared} {h' : Heap}
theorem Cx.Ok.nofr (ok : X.Ok) {b : Addr} {o : Obj} (e : X.base.get? b = some o) : b ∉ X.fs := fun hb => by
 have := (ok.funs.mem hb).1
 rw [e] at this; cases this
theorem Inv.bs (I : Inv X pins σ H s) : ∀ b o, X.base.get? b = some o → s.heap.get? b = some o ∧ H b = none := fun b o e =>
 ⟨I.base.keep b o (I.ok.bs b o e).1 (I.ok.bs b o e).2 (I.ok.nofr e) (I.ok.noex b o e), I.base.free b o (I.ok.bs b o e).1 (I.ok.bs b o e).2 (I.ok.noex b o e)⟩
theorem Inv.bk (I : Inv X pins σ H s) : ∀ b o, X.base.get? b = some o → s.heap.get? b = some o := fun b o e => (I.bs b o e).1
theorem Inv.mod (I : Inv X pins σ H s) : Mod X.K X.mg X.base := I.ok.mod
theorem Inv.kIn (I : Inv X pins σ H s) : X.K.In s.heap := I.ok.mod.kin.keeps I.bk
theorem Inv.lt (I : Inv X pins σ H s) : X.env.locals < s.heap.objs.size := let ⟨_, hn, _⟩ := I.loc; hn.lt
theorem Inv.sz (I : Inv X pins σ H s) : X.s₀.heap.objs.size ≤ s.heap.objs.size := Nat.le_trans I.ok.above (Nat.le_of_lt I.lt)
theorem Inv.nofs (I : Inv X pins σ H s) {a : Addr} (h : s.heap.objs.size ≤ a) : a ∉ X.fs := fun hb => by
 obtain ⟨_, o, ho, _⟩ := I.ok.funs.mem hb
 exact absurd (Nat.lt_of_lt_of_le (Heap.lt_size ho) (Nat.le_trans I.sz h)) (Nat.lt_irrefl _)
theorem Inv.cne (I : Inv X pins σ H s) : ∀ x c, X.env.cells.lookup x = some c → c ≠ X.env.locals := fun x c e z => by
 obtain ⟨v, o, ho, hd⟩ := I.cell x c e
 obtain ⟨m, ⟨o', es, ep, ho', hd', _⟩, _⟩ := I.loc
 rw [z, ho'] at ho; cases ho; rw [hd'] at hd; cases hd
theorem Inv.funs (I : Inv X pins σ H s) : s.heap.FunFrames X.base X.outer := by
 have all : ∀ (l : List Env), (∀ b ∈ frs l, b ∈ X.fs) → X.s₀.heap.FunFrames X.base l → s.heap.FunFrames X.base l := by
  intro l
  induction l with
  | nil => intro _ _; trivial
  | cons env r ih =>
    intro hs hl
    obtain ⟨hk, ⟨L, o, hf, hn, ho, hd⟩, hr⟩ := hl
    have hL : L ∈ X.fs := hs L (by unfold frs; rw [List.filterMap_cons, hf]; exact List.mem_cons_self)
    obtain ⟨sl, e⟩ := I.base.slot L o ho (I.ok.frf L hL) hL fun z => I.ok.exfs L z hL
    exact ⟨hk, ⟨L, _, hf, hn, e, hd⟩, ih (fun b hb => hs b (by unfold frs; rw [List.filterMap_cons, hf]; exact List.mem_cons_of_mem _ hb)) hr⟩
 exact all X.outer (fun _ hb => hb) I.ok.funs
theorem Inv.stack (I : Inv X pins σ H s) : s.heap.FunFrames X.base X.stack := by
 rcases I.ok.stk with e | ⟨e, hf⟩
 ·rw [e]; exact I.funs
 ·rw [e]
  obtain ⟨m, hn, _⟩ := I.loc
  refine .cons (by rw [I.ok.kind]; decide) hf hn ?_ I.funs
  exact Heap.get?_none_of_le (Nat.le_trans I.ok.bsz I.ok.above)
theorem Inv.stkSub (I : Inv X pins σ H s) : ∀ b ∈ frs X.stack, b ∈ X.env.locals :: X.fs := fun b hb => by
 rcases I.ok.stk with e | ⟨e, hf⟩
 ·rw [e] at hb; exact List.mem_cons_of_mem _ hb
 ·rw [e] at hb
  unfold frs at hb
  rw [List.filterMap_cons, hf] at hb
  exact hb
theorem Inv.stkFree (I : Inv X pins σ H s) : ∀ b ∈ frs X.stack, H b = none := fun b hb => by
 rcases List.mem_cons.mp (I.stkSub b hb) with e | hb
 ·rw [e]; exact I.free
 ·obtain ⟨_, o, ho, _⟩ := I.ok.funs.mem hb
  exact I.base.free b o ho (I.ok.frf b hb) fun z => I.ok.exfs b z hb
theorem Inv.step {g' : Array GenState} {t' : Nat} {d' : Drawn} {ch : List Addr} (I : Inv X pins σ H s)
  (hch : ∀ b ∈ ch, (b ∈ X.ex ∨ X.s₀.heap.objs.size ≤ b) ∧ b ≠ X.env.locals ∧ (∀ x c, X.env.cells.lookup x = some c → c ≠ b) ∧ ∀ p ∈ X.pn ++ pins, p.1 ≠ b)
  (keep : ∀ b o, b ≠ X.env.locals → b ∉ X.fs → b ∉ ch → s.heap.get? b = some o → H b = none → h'.get? b = some o)
  (slot : ∀ b o, b ≠ X.env.locals → b ∈ X.fs → b ∉ ch → s.heap.get? b = some o → H b = none → ∃ sl, h'.get? b = some { o with slots := sl }) (free : ∀ b o, b ∉ ch → s.heap.get? b = some o → H b = none → H' b = none)
  (there : ∀ b o, b ∉ ch → s.heap.get? b = some o → ∃ o', h'.get? b = some o')
  (tups : ∀ b xs, H b = some (.tup xs) → H' b = some (.tup xs)) (frzs : ∀ b o u, H b = some (.frz o u) → H' b = some (.frz o u)) (tbls : ∀ b ps, H b = some (.tbl ps) → ∃ more, H' b = some (.tbl (ps ++ more)))
  (ns : ∀ m, s.heap.Ns X.env.locals m → h'.Ns X.env.locals m) (hok : HOk X.prog X.w H' h') (hg : AllBare g') :
  Inv X pins σ H' { s with heap := h', gens := g', drawn := d', toks := t' } := by
 have neL : ∀ b o, X.s₀.heap.get? b = some o → b ≠ X.env.locals := fun b o e => Nat.ne_of_lt (Nat.lt_of_lt_of_le (Heap.lt_size e) I.ok.above)
 have neC : ∀ b o, X.s₀.heap.get? b = some o → b ∉ X.ex → b ∉ ch := fun b o e hx hb => by
  rcases (hch b hb).1 with z | z
  ·exact hx z
  ·exact absurd (Nat.lt_of_lt_of_le (Heap.lt_size e) z) (Nat.lt_irrefl _)
 have cellK : ∀ x c, X.env.cells.lookup x = some c → ∀ v, s.heap.IsCell c v → h'.IsCell c v := fun x c e v ⟨o, ho, hd⟩ => by
  have nch : c ∉ ch := fun z => (hch c z).2.2.1 x c e rfl
  by_cases hc : c ∈ X.fs
  ·obtain ⟨sl, q⟩ := slot c o (I.cne x c e) hc nch ho (I.freeC x c e)
   exact ⟨_, q, hd⟩
  ·exact ⟨o, keep c o (I.cne x c e) hc nch ho (I.freeC x c e), hd⟩
 refine ⟨I.ok, I.os, hg, ⟨fun b o e n hb hx => ?_, fun b o e n hb hx => ?_, fun b o e n hx => ?_, fun b o e hx => ?_, fun b xs e => tups b xs (I.base.tups b xs e), fun b o xs e => frzs b o xs (I.base.frzs b o xs e), fun b ps e => ?_⟩, ?_, fun x c e => ?_, ?_, fun x c e => ?_, fun p hp => ?_, hok, I.len⟩
 ·exact keep b o (neL b o e) hb (neC b o e hx) (I.base.keep b o e n hb hx) (I.base.free b o e n hx)
 ·obtain ⟨sl, e1⟩ := I.base.slot b o e n hb hx
  obtain ⟨sl', e2⟩ := slot b _ (neL b o e) hb (neC b o e hx) e1 (I.base.free b o e n hx)
  exact ⟨sl', e2⟩
 ·obtain ⟨o', e1⟩ := I.base.there b o e hx
  exact free b o' (neC b o e hx) e1 (I.base.free b o e n hx)
 ·obtain ⟨o', e1⟩ := I.base.there b o e hx
  exact there b o' (neC b o e hx) e1
 ·obtain ⟨m1, e1⟩ := I.base.tbls b ps e
  obtain ⟨m2, e2⟩ := tbls b _ e1
  exact ⟨m1 ++ m2, by rw [e2, Array.append_assoc]⟩
 ·obtain ⟨m, hn, hl⟩ := I.loc
  refine ⟨m, ns m hn, fun i x v e1 e2 e3 => ?_⟩
  obtain ⟨u, r, l⟩ := hl i x v e1 e2 e3
  refine ⟨u, r, ?_⟩
  rcases l with l | ⟨k, c, e, z⟩
  ·exact .inl l
  ·exact .inr ⟨k, c, e, cellK x c e _ z⟩
 ·obtain ⟨v, z⟩ := I.cell x c e
  exact ⟨v, cellK x c e v z⟩
 ·obtain ⟨m, ⟨o, _, _, ho, _⟩, _⟩ := I.loc
  exact free _ o (fun z => (hch _ z).2.1 rfl) ho I.free
 ·obtain ⟨v, o, ho, hd⟩ := I.cell x c e
  exact free c o (fun z => (hch c z).2.2.1 x c e rfl) ho (I.freeC x c e)
 ·obtain ⟨e, n, ne, nf, d⟩ := I.pin p hp
  have nch : p.1 ∉ ch := fun z => (hch p.1 z).2.2.2 p hp rfl
  exact ⟨keep p.1 p.2 ne nf nch e n, free p.1 p.2 nch e n, ne, nf, d⟩
theorem Inv.un {t' : Nat} (I : Inv X pins σ H s) (u : Un X.fs [] H H' s.heap h') (hok : HOk X.prog X.w H' h') : Inv X pins σ H' { s with heap := h', toks := t' } := by
 obtain ⟨m, ⟨o, es, ep, ho, r⟩, _⟩ := id I.loc
 obtain ⟨sl, hL⟩ := u.any ho I.free (by simp)
 exact I.step (g' := s.gens) (d' := s.drawn) (ch := []) (fun _ z => nomatch z) (fun b o _ hb _ e n => u.keep b o e n hb (by simp)) (fun b o _ hb _ e n => u.slot b o e n hb (by simp)) (fun b o _ e n => u.free b o e n (by simp)) (fun b o _ e => u.there b o e (by simp)) u.tups u.frzs u.tbls (fun m' hm => by
  obtain ⟨o', es', ep', ho', r'⟩ := hm
  rw [ho] at ho'; cases ho'
  exact ⟨_, es', ep', hL, r'⟩) hok I.bare
theorem Inv.call {g' : Array GenState} {t' : Nat} {d' : Drawn} {ch : List Addr} (I : Inv X pins σ H s) (u : Un (frs X.stack) ch H H' s.heap h') (hok : HOk X.prog X.w H' h') (hg : AllBare g')
  (hch : ∀ b ∈ ch, (b ∈ X.ex ∨ X.s₀.heap.objs.size ≤ b) ∧ b ≠ X.env.locals ∧ (∀ x c, X.env.cells.lookup x = some c → c ≠ b) ∧ ∀ p ∈ X.pn ++ pins, p.1 ≠ b) :
  Inv X pins σ H' { s with heap := h', gens := g', drawn := d', toks := t' } := by
 obtain ⟨m, ⟨o, es, ep, ho, r⟩, _⟩ := id I.loc
 obtain ⟨sl, hL⟩ := u.any ho I.free fun z => (hch _ z).2.1 rfl
 exact I.step (ch := ch) hch (fun b o hL hb hc e n => u.keep b o e n (fun z => (List.mem_cons.mp (I.stkSub b z)).elim hL hb) hc) (fun b o _ _ hc e n => u.any e n hc) (fun b o hc e n => u.free b o e n hc) (fun b o hc e => u.there b o e hc) u.tups u.frzs u.tbls (fun m' hm => by
  obtain ⟨o', es', ep', ho', r'⟩ := hm
  rw [ho] at ho'; cases ho'
  exact ⟨_, es', ep', hL, r'⟩) hok hg
theorem Inv.turned {t' : Nat} {it : Addr} (I : Inv X pins σ H s) (k : ∀ b o, b ≠ it → s.heap.get? b = some o → h'.get? b = some o) (hn : H it = none) (hL : it ≠ X.env.locals)
  (h1 : it ∈ X.ex ∨ X.s₀.heap.objs.size ≤ it) (h2 : ∀ x c, X.env.cells.lookup x = some c → c ≠ it) (h3 : ∀ p ∈ X.pn ++ pins, p.1 ≠ it) : Inv X pins σ H { s with heap := h', toks := t' } := by
 have nit : ∀ b u, H b = some u → b ≠ it := fun b u e z => by rw [z, hn] at e; cases e
 refine I.step (g' := s.gens) (d' := s.drawn) (ch := [it]) (fun b hb => ?_) (fun b o _ _ hc e _ => k b o (fun z => hc (by simp [z])) e) (fun b o _ _ hc e _ => ⟨o.slots, k b o (fun z => hc (by simp [z])) e⟩) (fun _ _ _ _ n => n)
  (fun b o hc e => ⟨o, k b o (fun z => hc (by simp [z])) e⟩) (fun _ _ e => e) (fun _ _ _ e => e) (fun b ps e => ⟨#[], by rw [e]; simp⟩) (fun m hm => ?_) (fun b u e => ?_) I.bare
 ·have e : b = it := by simpa using hb
  subst e
  exact ⟨h1, hL, h2, h3⟩
 ·obtain ⟨o, es, ep, ho, r⟩ := hm
  exact ⟨o, es, ep, k _ o (Ne.symm hL) ho, r⟩
 ·refine (I.hok b u e).stay (fun c v hc q => k c v ?_ q) (fun _ q => q) fun _ _ q => q
  rcases hc with z | z
  ·rw [z]; exact nit b u e
  ·exact nit c _ z
theorem Inv.tok (I : Inv X pins σ H s) (t : Nat) : Inv X pins σ H { s with toks := t } := I.un (h' := s.heap) (t' := t) Un.refl I.hok
theorem Inv.kept {t' : Nat} (I : Inv X pins σ H s) (k : ∀ b u, s.heap.get? b = some u → h'.get? b = some u) : Inv X pins σ H { s with heap := h', toks := t' } := I.un (Un.kept k) (I.hok.kept k)
theorem Inv.laid {a : Addr} {o : HO} {t' : Nat} (I : Inv X pins σ H s) (k : ∀ b u, s.heap.get? b = some u → h'.get? b = some u) (hp : s.heap.objs.size ≤ a) (new : a0Q X.prog X.w (upd H a o) h' a o) :
  Inv X pins σ (upd H a o) { s with heap := h', toks := t' } := I.un (Un.laid k hp (I.hok.fresh hp)) (I.hok.laid k hp new)
theorem Inv.write {x e : Addr} {o : HO} {t' : Nat} (I : Inv X pins σ H s) (mu : Mut (H x)) (he : e = x ∨ H e = some (.own x)) (k : ∀ b u, b ≠ e → s.heap.get? b = some u → h'.get? b = some u) (heo : ∃ u, h'.get? e = some u)
  (new : a0Q X.prog X.w (upd H x o) h' x o) : Inv X pins σ (upd H x o) { s with heap := h', toks := t' } := I.un (Un.write mu he k heo) (I.hok.write mu he k heo new)
theorem Inv.weak {σ' : List (Option V)} (I : Inv X pins σ H s) (hl : σ'.length = σ.length) (w : ∀ (i : Nat) v, σ'[i]? = some (some v) → σ[i]? = some (some v)) : Inv X pins σ' H s :=
 ⟨I.ok, I.os, I.bare, I.base, let ⟨m, hn, hl'⟩ := I.loc; ⟨m, hn, fun i x v e1 e2 e3 => hl' i x v e1 (w i v e2) e3⟩, I.cell, I.free, I.freeC, I.pin, I.hok, hl.trans I.len⟩
theorem Inv.pins_of {pins' : List (Addr × Obj)} (I : Inv X pins σ H s) (h : ∀ p ∈ pins', s.heap.get? p.1 = some p.2 ∧ H p.1 = none ∧ p.1 ≠ X.env.locals ∧ p.1 ∉ X.fs ∧ ∀ v, p.2.data ≠ .cell v) : Inv X pins' σ H s :=
 ⟨I.ok, I.os, I.bare, I.base, I.loc, I.cell, I.free, I.freeC, fun p hp => (List.mem_append.mp hp).elim (fun z => I.pin p (List.mem_append_left _ z)) (h p), I.hok, I.len⟩
theorem a9t {N : List Str} (hN : N.Nodup) {i j : Nat} {x : Str} (a : N[i]? = some x) (b : N[j]? = some x) : i = j := by
 obtain ⟨h1, e1⟩ := List.getElem?_eq_some_iff.mp a
 obtain ⟨h2, e2⟩ := List.getElem?_eq_some_iff.mp b
 exact (List.getElem_inj hN).mp (e1.trans e2.symm)
theorem a6X {M : Model} {A : Around} {E : Value → Shared → Prop} {i : Nat} {x : Str} {v : V} {u : Value} {Q : Unit → Shared → Prop} (I : Inv X pins σ H s) (hN : X.N.Nodup) (hi : X.N[i]? = some x) (hx : Loc X.env.scope x) (r : RelV v u)
  (h : ∀ s', Inv X pins (σ.set i (some v)) H s' → (∃ a, Heap.SameBut a s.heap s'.heap ∧ (a = X.env.locals ∨ X.env.cells.lookup x = some a)) → Q () s') (hf : X.fn x = true ∨ X.env.scope.names.lookup x = some .local := by first | exact .inl rfl | exact .inr rfl | assumption) : wpAny M A (storeName X.env x u) Q E s := by
 obtain ⟨m, hn, hl⟩ := id I.loc
 have hcls : (X.env.scope.kind == .class || (X.env.scope.kind == .module && X.env.locals != X.env.globals)) = false := by rw [I.ok.kind]; rfl
 have hiσ : i < σ.length := by rw [I.len]; exact (List.getElem?_eq_some_iff.mp hi).1
 have cne := I.cne
 have tracked : ∀ {a : Addr} {h' : Heap}, (∃ o, s.heap.get? a = some o ∧ H a = none) → Heap.SameBut a s.heap h' → HOk X.prog X.w H h' := fun {a h'} ha hs b ob e => by
  obtain ⟨_, _, hfree⟩ := ha
  refine (I.hok b ob e).stay (fun c w' hc q => (hs.2 c ?_).trans q) (fun _ q => q) fun _ _ q => q
  rintro rfl
  rcases hc with rfl | hc
  ·rw [hfree] at e; cases e
  ·rw [hfree] at hc; cases hc
 rcases hx with hk | hk
 ·refine wpAny_storeName_local hk hn (fun h' hn' hs => ?_) hcls
  obtain ⟨oL, _, _, hoL, _⟩ := id hn
  refine h _ ⟨I.ok, I.os, I.bare, ⟨fun b o e n hb hx => ?_, fun b o e n hb hx => ?_, I.base.free, fun b o e hx => ?_, I.base.tups, I.base.frzs, I.base.tbls⟩, ⟨_, hn', fun j y v' e1 e2 e3 => ?_⟩, fun y c e => ?_, I.free, I.freeC, fun p hp => ?_, tracked ⟨oL, hoL, I.free⟩ hs, by simpa using I.len⟩ ⟨_, hs, .inl rfl⟩
  ·exact (hs.2 b (Nat.ne_of_lt (Nat.lt_of_lt_of_le (Heap.lt_size e) I.ok.above))).trans (I.base.keep b o e n hb hx)
  ·obtain ⟨sl, e1⟩ := I.base.slot b o e n hb hx
   exact ⟨sl, (hs.2 b (Nat.ne_of_lt (Nat.lt_of_lt_of_le (Heap.lt_size e) I.ok.above))).trans e1⟩
  ·obtain ⟨o', e1⟩ := I.base.there b o e hx
   exact ⟨o', (hs.2 b (Nat.ne_of_lt (Nat.lt_of_lt_of_le (Heap.lt_size e) I.ok.above))).trans e1⟩
  ·by_cases hj : j = i
   ·subst hj
    rw [hi] at e1; cases e1
    rw [List.getElem?_set_self hiσ] at e2
    cases e2
    exact ⟨u, r, .inl ⟨hk, by simp⟩⟩
   ·rw [List.getElem?_set_ne (Ne.symm hj)] at e2
    obtain ⟨u', r', q⟩ := hl j y v' e1 e2 e3
    refine ⟨u', r', ?_⟩
    rcases q with ⟨k, e⟩ | ⟨k, c, e, z⟩
    ·refine .inl ⟨k, ?_⟩
     have : y ≠ x := fun e => hj (a9t hN e1 (e ▸ hi))
     simp [this, e]
    ·exact .inr ⟨k, c, e, z.sameBut hs (cne y c e)⟩
  ·obtain ⟨w', z⟩ := I.cell y c e
   exact ⟨w', z.sameBut hs (cne y c e)⟩
  ·obtain ⟨e, n, ne, nf, d⟩ := I.pin p hp
   exact ⟨(hs.2 p.1 ne).trans e, n, ne, nf, d⟩
 ·have hfn : X.fn x = true := by
   rcases hf with z | z
   ·exact z
   ·rw [z] at hk; cases hk
  obtain ⟨c, hc⟩ := I.ok.has x (.inl hk)
  obtain ⟨w', z⟩ := I.cell x c hc
  refine wpAny_storeName_cell I.ok.kind hk hc z (fun h' hc' hs => ?_)
  obtain ⟨oc, hoc, hocd⟩ := id z
  refine h { s with heap := h' } ⟨I.ok, I.os, I.bare, ⟨fun b o e n hb hx => ?_, fun b o e n hb hx => ?_, I.base.free, fun b o e hx => ?_, I.base.tups, I.base.frzs, I.base.tbls⟩, ⟨m, hn.sameBut hs (Ne.symm (cne x c hc)), fun j y v' e1 e2 e3 => ?_⟩, fun y c' e => ?_, I.free, I.freeC, fun p hp => ?_, tracked ⟨oc, hoc, I.freeC x c hc⟩ hs, by simpa using I.len⟩ ⟨c, hs, .inr hc⟩
  ·exact (hs.2 b (Nat.ne_of_lt (Nat.lt_of_lt_of_le (Heap.lt_size e) (I.ok.cab x c hfn hc)))).trans (I.base.keep b o e n hb hx)
  ·obtain ⟨sl, e1⟩ := I.base.slot b o e n hb hx
   exact ⟨sl, (hs.2 b (Nat.ne_of_lt (Nat.lt_of_lt_of_le (Heap.lt_size e) (I.ok.cab x c hfn hc)))).trans e1⟩
  ·obtain ⟨o', e1⟩ := I.base.there b o e hx
   exact ⟨o', (hs.2 b (Nat.ne_of_lt (Nat.lt_of_lt_of_le (Heap.lt_size e) (I.ok.cab x c hfn hc)))).trans e1⟩
  ·by_cases hj : j = i
   ·subst hj
    rw [hi] at e1; cases e1
    rw [List.getElem?_set_self hiσ] at e2
    cases e2
    exact ⟨u, r, .inr ⟨.inl hk, c, hc, hc'⟩⟩
   ·rw [List.getElem?_set_ne (Ne.symm hj)] at e2
    obtain ⟨u', r', q⟩ := hl j y v' e1 e2 e3
    refine ⟨u', r', ?_⟩
    rcases q with q | ⟨k, c', e, z'⟩
    ·exact .inl q
    ·refine .inr ⟨k, c', e, z'.sameBut hs ?_⟩
     rintro rfl
     exact hj (a9t hN e1 (I.ok.inj _ _ _ e hc ▸ hi))
  ·by_cases hcc : c' = c
   ·subst hcc; exact ⟨_, hc'⟩
   ·obtain ⟨w2, z2⟩ := I.cell y c' e
    exact ⟨w2, z2.sameBut hs hcc⟩
  ·obtain ⟨e, n, ne, nf, d⟩ := I.pin p hp
   refine ⟨(hs.2 p.1 ?_).trans e, n, ne, nf, d⟩
   intro q
   rw [q, hoc] at e
   have q' : oc = p.2 := Option.some.inj e
   exact d w' (by rw [← q']; exact hocd)
theorem a6j {M : Model} {A : Around} {E : Value → Shared → Prop} {i : Nat} {x : Str} {v : V} {u : Value} {Q : Unit → Shared → Prop} (I : Inv X pins σ H s) (hN : X.N.Nodup) (hi : X.N[i]? = some x) (hx : Loc X.env.scope x) (r : RelV v u)
  (h : ∀ s', Inv X pins (σ.set i (some v)) H s' → Q () s') (hf : X.fn x = true ∨ X.env.scope.names.lookup x = some .local := by first | exact .inl rfl | exact .inr rfl | assumption) : wpAny M A (storeName X.env x u) Q E s :=
 a6X I hN hi hx r (fun s' I' _ => h s' I') hf
theorem Inv.call' {s' : Shared} {ch : List Addr} (I : Inv X pins σ H s) (ho : s'.os = s.os) (u : Un (frs X.stack) ch H H' s.heap s'.heap) (hok : HOk X.prog X.w H' s'.heap) (hg : AllBare s'.gens)
  (hch : ∀ b ∈ ch, (b ∈ X.ex ∨ X.s₀.heap.objs.size ≤ b) ∧ b ≠ X.env.locals ∧ (∀ x c, X.env.cells.lookup x = some c → c ≠ b) ∧ ∀ p ∈ X.pn ++ pins, p.1 ≠ b) : Inv X pins σ H' s' := by
 obtain ⟨h', g', d', t', o'⟩ := s'
 have e : o' = s.os := ho
 subst e
 exact I.call (g' := g') (t' := t') (d' := d') u hok hg hch
end
noncomputable abbrev XK := Value → Option Addr → Hp → Prop
noncomputable abbrev St := List (Option V)
noncomputable abbrev VK := V → Hp → Prop
noncomputable abbrev TE := St → Hp → VK → Prop
noncomputable abbrev TT := St → Hp → (Bool → Hp → Prop) → Prop
noncomputable abbrev TA := St → Hp → (List V → Hp → Prop) → Prop
structure Ends where
 nx : St → Hp → Prop
 rt : VK
 bk : St → Hp → Prop := fun _ _ => False
 ct : St → Hp → Prop := fun _ _ => False
noncomputable abbrev TS := Ends → St → Hp → Prop
noncomputable def EP (X : Cx) (pins : List (Addr × Obj)) (σ : St) (Q : VK) (u : Value) (s' : Shared) : Prop := ∃ v H', Inv X pins σ H' s' ∧ RelV v u ∧ Q v H'
noncomputable def TP (X : Cx) (pins : List (Addr × Obj)) (σ : St) (Q : Bool → Hp → Prop) (b : Bool) (s' : Shared) : Prop := ∃ H', Inv X pins σ H' s' ∧ Q b H'
noncomputable def AP (X : Cx) (pins : List (Addr × Obj)) (σ : St) (Q : List V → Hp → Prop) (us : List Value) (s' : Shared) : Prop := ∃ vs H', Inv X pins σ H' s' ∧ Vals vs us ∧ Q vs H'
noncomputable def SP (X : Cx) (pins : List (Addr × Obj)) (D : Ends) (f : Flow) (s' : Shared) : Prop :=
 match f with
 | .next => ∃ σ' H', Inv X pins σ' H' s' ∧ D.nx σ' H'
 | .brk => ∃ σ' H', Inv X pins σ' H' s' ∧ D.bk σ' H'
 | .cont => ∃ σ' H', Inv X pins σ' H' s' ∧ D.ct σ' H'
 | .ret u => ∃ v σ' H', Inv X pins σ' H' s' ∧ RelV v u ∧ D.rt v H'
noncomputable def PE (X : Cx) (e : Expr) (t : TE) : Prop :=
 ∀ (pins : List (Addr × Obj)) (s : Shared) (σ : St) (H : Hp) (Q : VK), Inv X pins σ H s → t σ H Q → wpAny (model X.prog X.w) X.A (eval e X.env) (EP X pins σ Q) X.xe s
noncomputable def PT (X : Cx) (e : Expr) (t : TT) : Prop :=
 ∀ (pins : List (Addr × Obj)) (s : Shared) (σ : St) (H : Hp) (Q : Bool → Hp → Prop), Inv X pins σ H s → t σ H Q → wpAny (model X.prog X.w) X.A (isTrue e X.env (eval e X.env)) (TP X pins σ Q) X.xe s
noncomputable def PW (X : Cx) (e : Expr) (t : TT) : Prop :=
 ∀ (whole : Sem Value) (pins : List (Addr × Obj)) (s : Shared) (σ : St) (H : Hp) (Q : Bool → Hp → Prop), Inv X pins σ H s → t σ H Q → wpAny (model X.prog X.w) X.A (isTrue e X.env whole) (TP X pins σ Q) X.xe s
theorem PW.pt {X : Cx} {e : Expr} {t : TT} (h : PW X e t) : PT X e t := h _
noncomputable def PA (X : Cx) (es : List Expr) (t : TA) : Prop :=
 ∀ (pos : Pos) (pins : List (Addr × Obj)) (s : Shared) (σ : St) (H : Hp) (Q : List V → Hp → Prop), Inv X pins σ H s → t σ H Q → wpAny (model X.prog X.w) X.A (spliced (backTo pos (starEach es X.env))) (AP X pins σ Q) X.xe s
noncomputable def PS (X : Cx) (st : Stmt) (t : TS) : Prop :=
 ∀ (pins : List (Addr × Obj)) (s : Shared) (σ : St) (H : Hp) (D : Ends), Inv X pins σ H s → t D σ H → wpAny (model X.prog X.w) X.A (exec st X.env) (SP X pins D) X.xe s
noncomputable def PSs (X : Cx) (st : List Stmt) (t : TS) : Prop :=
 ∀ (pins : List (Addr × Obj)) (s : Shared) (σ : St) (H : Hp) (D : Ends), Inv X pins σ H s → t D σ H → wpAny (model X.prog X.w) X.A (execs st X.env) (SP X pins D) X.xe s
theorem thn {α : Type} {t : Sem α} {Q Q' : α → Shared → Prop} {M : Model} {A : Around} {E : Value → Shared → Prop} {s : Shared} (h : wpAny M A t Q E s) (hQ : ∀ a s, Q a s → Q' a s) : wpAny M A t Q' E s := wpAny_mono h hQ fun _ _ x => x
section
variable {X : Cx}
noncomputable def tVar (i : Nat) : TE := fun σ H Q => ∃ v, σ[i]? = some (some v) ∧ Q v H
noncomputable def tC (v : V) : TE := fun _ H Q => Q v H
theorem b6S {i : Nat} {x : Str} {pos : Pos} (hN : X.N[i]? = some x) (hv : Vis X.env.scope x) (hd : (x == ("__debug__" : Str)) = false := by decide) (hcd : (x == ("__classdict__" : Str)) = false := by decide) : PE X (.Name x pos) (tVar i) := by
 intro pins s σ H Q I h
 obtain ⟨v, e, h⟩ := h
 obtain ⟨m, hn, hl⟩ := I.loc
 obtain ⟨u, r, l⟩ := hl i x v hN e hv
 have fin : EP X pins σ Q u s := ⟨v, H, I, r, h⟩
 rcases l with ⟨hk, hm⟩ | ⟨hk, c, hc, hcell⟩
 ·exact wpAny_Name (wpAny_loadName_local I.ok.kind hk hn hm fin) hd
 ·rcases hk with hk | hk
  ·exact wpAny_Name (wpAny_loadName_cell I.ok.kind hk hc hcell fin) hd
  ·exact wpAny_Name (wpAny_loadName_free I.ok.kind hk hc hcell fin hcd) hd
theorem b6X {i j pos} : PE X (.Constant (.int i) j pos) (tC (.int i)) := fun _ _ _ H _ I h => wpAny_Constant_int ⟨.int i, H, I.tok _, ⟨_, rfl⟩, h⟩
theorem b8s {b j pos} : PE X (.Constant (.bool b) j pos) (tC (.bl b)) := fun _ _ _ H _ I h => Constant_bool ⟨.bl b, H, I, rfl, h⟩
noncomputable def Gl (X : Cx) (x : Str) : Prop := X.env.kindOf x = some .globalImplicit
theorem b1J {E : Value → Shared → Prop} {pins : List (Addr × Obj)} {s : Shared} {σ : St} {H : Hp} {x : Str} {u : Value} {pos : Pos} {Q : Value → Shared → Prop} (I : Inv X pins σ H s) (hg : Gl X x) (hm : X.mg x = some u) (h : Q u s)
  (hd : (x == ("__debug__" : Str)) = false := by decide) : wpAny (model X.prog X.w) X.A (eval (.Name x pos) X.env) Q E s :=
 Calls.Name_function_global I.ok.kind hg (Calls.loadGlobal_global (by rw [I.ok.glob]; exact I.mod.glob.keeps I.bk) hm h) hd
theorem a2Z {E : Value → Shared → Prop} {pins : List (Addr × Obj)} {s : Shared} {σ : St} {H : Hp} {x : Str} {u : Value} {pos : Pos} {Q : Value → Shared → Prop} (I : Inv X pins σ H s) (hg : Gl X x) (hm : X.mg x = none) (hv : bootBuiltins x = some u) (h : Q u s)
  (hn : x ≠ "__name__" := by decide) (hd : (x == ("__debug__" : Str)) = false := by decide) : wpAny (model X.prog X.w) X.A (eval (.Name x pos) X.env) Q E s := by
 obtain ⟨mb, h1, h2⟩ := I.mod.blt
 exact Calls.Name_function_global I.ok.kind hg (Calls.loadGlobal_builtin (by rw [I.ok.glob]; exact I.mod.glob.keeps I.bk) hm (by rw [I.ok.blt]; exact h1.keeps I.bk) ((h2 x hn).trans hv) h) hd
theorem b1n {x : Str} {v : V} {u : Value} {pos : Pos} (hg : Gl X x) (hm : X.mg x = some u) (r : RelV v u) (hd : (x == ("__debug__" : Str)) = false := by decide) : PE X (.Name x pos) (tC v) :=
 fun _ _ _ H _ I h => b1J I hg hm ⟨v, H, I, r, h⟩ hd
theorem b5h {x : Str} {v : V} {u : Value} {pos : Pos} (hg : Gl X x) (hm : X.mg x = none) (hv : bootBuiltins x = some u) (r : RelV v u) (hn : x ≠ "__name__" := by decide) (hd : (x == ("__debug__" : Str)) = false := by decide) : PE X (.Name x pos) (tC v) :=
 fun _ _ _ H _ I h => a2Z I hg hm hv ⟨v, H, I, r, h⟩ hn hd
variable {a b : Expr} {ta tb : TE} {pos : Pos}
variable {tA tB' : TT} {rest : List Expr}
noncomputable def tAnd (t u : TT) : TT := fun σ H Q => t σ H fun c H1 => if c = true then u σ H1 Q else Q false H1
noncomputable def tOr (t u : TT) : TT := fun σ H Q => t σ H fun c H1 => if c = true then Q true H1 else u σ H1 Q
noncomputable def tNot (t : TT) : TT := fun σ H Q => t σ H fun c H1 => Q (!c) H1
theorem b4V (ha : PT X a tA) : PW X (.BoolOp .And [a] pos) tA := by
 intro wh pins s σ H Q I h
 refine isTrue_and (thn (ha pins s σ H Q I h) fun c s1 e => ?_)
 cases c with
 | true => exact isTrue_and_nil e
 | false => exact e
theorem b6I (ha : PT X a tA) : PW X (.BoolOp .Or [a] pos) tA := by
 intro wh pins s σ H Q I h
 refine isTrue_or (thn (ha pins s σ H Q I h) fun c s1 e => ?_)
 cases c with
 | false => exact isTrue_or_nil e
 | true => exact e
theorem b6J (ha : PT X a tA) (hb : PW X (.BoolOp .And (b :: rest) pos) tB') : PW X (.BoolOp .And (a :: b :: rest) pos) (tAnd tA tB') := by
 intro wh pins s σ H Q I h
 refine isTrue_and (thn (ha pins s σ H _ I h) fun c s1 ⟨H1, I1, q1⟩ => ?_)
 cases c with
 | true => exact hb wh pins s1 σ H1 Q I1 q1
 | false => exact ⟨H1, I1, q1⟩
theorem b8m (ha : PT X a tA) (hb : PW X (.BoolOp .Or (b :: rest) pos) tB') : PW X (.BoolOp .Or (a :: b :: rest) pos) (tOr tA tB') := by
 intro wh pins s σ H Q I h
 refine isTrue_or (thn (ha pins s σ H _ I h) fun c s1 ⟨H1, I1, q1⟩ => ?_)
 cases c with
 | true => exact ⟨H1, I1, q1⟩
 | false => exact hb wh pins s1 σ H1 Q I1 q1
theorem b6K (ha : PT X a tA) : PT X (.UnaryOp .Not a pos) (tNot tA) := by
 intro pins s σ H Q I h
 exact isTrue_not (ha pins s σ H (fun c H1 => Q (!c) H1) I h)
noncomputable def b8f (ta tb : TE) : TE := fun σ H Q => ta σ H fun x H1 => ∃ c, x = .bl c ∧ if c = true then tb σ H1 Q else Q (.bl false) H1
noncomputable def b7Z (ta : TE) : TE := fun σ H Q => ta σ H fun x H1 => ∃ c, x = .bl c ∧ Q (.bl (!c)) H1
theorem b6U {op} {t : TE} (h : PE X a t) : PE X (.BoolOp op [a] pos) t := fun pins s σ H Q I hw => BoolOp_one (h pins s σ H Q I hw)
theorem b6Y (ha : PE X a ta) (hb : PE X (.BoolOp .And (b :: rest) pos) tb) : PE X (.BoolOp .And (a :: b :: rest) pos) (b8f ta tb) := by
 intro pins s σ H Q I h
 refine BoolOp_and (thn (ha pins s σ H _ I h) fun v s1 ⟨x, H1, I1, r1, q1⟩ => ?_)
 obtain ⟨c, rfl, q1⟩ := q1
 cases r1
 refine wpAny_truthy_bool ?_
 cases c with
 | true => exact hb pins s1 σ H1 Q I1 q1
 | false => exact ⟨.bl false, H1, I1, rfl, q1⟩
theorem b6V (ha : PE X a ta) : PE X (.UnaryOp .Not a pos) (b7Z ta) := by
 intro pins s σ H Q I h
 refine UnaryOp_ (thn (ha pins s σ H _ I h) fun v s1 ⟨x, H1, I1, r1, q1⟩ => ?_)
 obtain ⟨c, rfl, q1⟩ := q1
 cases r1
 exact not_of (wpAny_truthy_bool ⟨.bl (!c), H1, I1, rfl, q1⟩)
noncomputable def tIf (t : TT) (ta tb : TE) : TE := fun σ H Q => t σ H fun c H1 => if c = true then ta σ H1 Q else tb σ H1 Q
theorem b3c {c : Expr} (hc : PT X c tA) (ha : PE X a ta) (hb : PE X b tb) : PE X (.IfExp c a b pos) (tIf tA ta tb) := by
 intro pins s σ H Q I h
 refine wpAny_IfExp (thn (hc pins s σ H _ I h) fun d s1 ⟨H1, I1, q1⟩ => ?_)
 cases d with
 | true => exact ha pins s1 σ H1 Q I1 q1
 | false => exact hb pins s1 σ H1 Q I1 q1
end
noncomputable def SqL (K : PySem.W.Frag) (H : Hp) (a : Addr) (xs : List V) : Prop :=
 Rd H a (.lst xs) ∨
  ∃ (o : Obj) (its : Array Value) (n : Nat), K.lookup a = some o ∧ o.cls = .type "list" ∧ o.dict = none ∧ o.data = .seq its n ∧ its.size ≤ sizeLine ∧ Vals xs its.toList
noncomputable def SqT (K : PySem.W.Frag) (H : Hp) (a : Addr) (xs : List V) : Prop :=
 Rd H a (.tup xs) ∨
  ∃ (o : Obj) (its : Array Value) (n : Nat), K.lookup a = some o ∧ o.cls = .type "tuple" ∧ o.dict = none ∧ o.data = .seq its n ∧ its.size ≤ sizeLine ∧ Vals xs its.toList
noncomputable def absV : Value → Option V
 | .none => some .non
 | .bool b => some (.bl b)
 | .int i _ => some (.int i)
 | .str x _ => some (.str x)
 | .bytes b _ => some (.byt b)
 | .float b _ => some (.flt b)
 | .ref a => some (.ref a)
 | .type n => some (.ty n)
 | _ => none
theorem RelV.abs {x : V} {u : Value} (r : RelV x u) : absV u = some x := by
 cases x with
 | non => cases r; rfl
 | bl _ => cases r; rfl
 | int _ => obtain ⟨t, rfl⟩ := r; rfl
 | str _ => obtain ⟨t, rfl⟩ := r; rfl
 | byt _ => obtain ⟨t, rfl⟩ := r; rfl
 | flt _ => obtain ⟨t, rfl⟩ := r; rfl
 | ref _ => cases r; rfl
 | ty _ => cases r; rfl
theorem RelV.inj {x y : V} {u : Value} (r : RelV x u) (q : RelV y u) : x = y := Option.some.inj (r.abs.symm.trans q.abs)
theorem Vals.inj : ∀ {xs ys : List V} {us : List Value}, Vals xs us → Vals ys us → xs = ys
 | _, _, _, .nil, .nil => rfl
 | _, _, _, .cons r t, .cons r' t' => by rw [r.inj r', Vals.inj t t']
section
variable {X : Cx} {pins : List (Addr × Obj)} {σ : St} {H : Hp} {s : Shared} {a : Addr} {xs ys : List V}
theorem SqL.of {K : PySem.W.Frag} (h : H a = some (.lst xs)) : SqL K H a xs := .inl (.inl h)
theorem SqT.of {K : PySem.W.Frag} (h : H a = some (.tup xs)) : SqT K H a xs := .inl (.inl h)
theorem Inv.list (I : Inv X pins σ H s) (h : SqL X.K H a xs) : ∃ its : List Value, Vals xs its ∧ PlainL s.heap a its.toArray ∧ xs.length ≤ sizeLine := by
 rcases h with h | ⟨o, its, n, hk, hc, hd, hs, hz, r⟩
 ·obtain ⟨z, its, n, r, e⟩ := h.ok I.hok
  exact ⟨its, r, ⟨_, n, e, rfl, rfl, rfl⟩, z⟩
 ·refine ⟨its.toList, r, ⟨o, n, I.kIn a o hk, hc, hd, by simpa using hs⟩, ?_⟩
  have e := r.length
  simp only [Array.length_toList] at e
  lia
theorem Inv.tuple (I : Inv X pins σ H s) (h : SqT X.K H a xs) : ∃ its : List Value, Vals xs its ∧ IsTup s.heap a its.toArray ∧ xs.length ≤ sizeLine := by
 rcases h with h | ⟨o, its, n, hk, hc, hd, hs, hz, r⟩
 ·obtain ⟨z, its, r, p⟩ := h.ok I.hok
  exact ⟨its, r, p.t, z⟩
 ·refine ⟨its.toList, r, ⟨o, I.kIn a o hk, hc, n, by simpa using hs⟩, ?_⟩
  have e := r.length
  simp only [Array.length_toList] at e
  lia
theorem Inv.tuple0 (I : Inv X pins σ H s) (h : SqT X.K H a xs) : ∃ its : List Value, Vals xs its ∧ a2Q s.heap a its.toArray ∧ xs.length ≤ sizeLine := by
 rcases h with h | ⟨o, its, n, hk, hc, hd, hs, hz, r⟩
 ·obtain ⟨z, its, r, p⟩ := h.ok I.hok
  exact ⟨its, r, p, z⟩
 ·refine ⟨its.toList, r, ⟨o, I.kIn a o hk, hc, hd, n, by simpa using hs⟩, ?_⟩
  have e := r.length
  simp only [Array.length_toList] at e
  lia
theorem Inv.list_inj (I : Inv X pins σ H s) (h : SqL X.K H a xs) (h' : SqL X.K H a ys) : xs = ys := by
 obtain ⟨its, r, ⟨o, n, e, _, _, d⟩, _⟩ := I.list h
 obtain ⟨its', r', ⟨o', n', e', _, _, d'⟩, _⟩ := I.list h'
 rw [e] at e'; cases e'
 rw [d] at d'
 injection d' with d1 _
 have : its = its' := by simpa using congrArg Array.toList d1
 subst this
 exact r.inj r'
theorem Inv.tuple_inj (I : Inv X pins σ H s) (h : SqT X.K H a xs) (h' : SqT X.K H a ys) : xs = ys := by
 obtain ⟨its, r, ⟨o, e, _, n, d⟩, _⟩ := I.tuple h
 obtain ⟨its', r', ⟨o', e', _, n', d'⟩, _⟩ := I.tuple h'
 rw [e] at e'; cases e'
 rw [d] at d'
 injection d' with d1 _
 have : its = its' := by simpa using congrArg Array.toList d1
 subst this
 exact r.inj r'
end
noncomputable abbrev Cx.wish (X : Cx) (E : Value → Shared → Prop) : Cx := { X with xe := E }
noncomputable abbrev Cx.nox (X : Cx) : Cx := X.wish fun _ _ => False
theorem Cx.Ok.wish {X : Cx} (ok : X.Ok) (E : Value → Shared → Prop) : (X.wish E).Ok :=
 ⟨ok.mod, ok.kind, ok.glob, ok.blt, ok.above, ok.inj, ok.has, ok.cab, ok.hd, ok.frames, ok.stk, ok.exf, ok.bs, ok.bsz, ok.noex, ok.exfs, ok.funs, ok.frf⟩
theorem Cx.Ok.unwish {X : Cx} {E : Value → Shared → Prop} (ok : (X.wish E).Ok) : X.Ok :=
 ⟨ok.mod, ok.kind, ok.glob, ok.blt, ok.above, ok.inj, ok.has, ok.cab, ok.hd, ok.frames, ok.stk, ok.exf, ok.bs, ok.bsz, ok.noex, ok.exfs, ok.funs, ok.frf⟩
section
variable {X : Cx} {pins : List (Addr × Obj)} {σ : St} {H : Hp} {s : Shared} {E : Value → Shared → Prop}
theorem Inv.wish (I : Inv X pins σ H s) (E : Value → Shared → Prop) : Inv (X.wish E) pins σ H s := ⟨I.ok.wish E, I.os, I.bare, I.base, I.loc, I.cell, I.free, I.freeC, I.pin, I.hok, I.len⟩
theorem Inv.unwish (I : Inv (X.wish E) pins σ H s) : Inv X pins σ H s := ⟨I.ok.unwish, I.os, I.bare, I.base, I.loc, I.cell, I.free, I.freeC, I.pin, I.hok, I.len⟩
theorem SP.unwish {D : Ends} {f : Flow} {s' : Shared} (h : SP (X.wish E) pins D f s') : SP X pins D f s' := by
 cases f with
 | next => obtain ⟨σ', H', I, q⟩ := h; exact ⟨σ', H', I.unwish, q⟩
 | brk => obtain ⟨σ', H', I, q⟩ := h; exact ⟨σ', H', I.unwish, q⟩
 | cont => obtain ⟨σ', H', I, q⟩ := h; exact ⟨σ', H', I.unwish, q⟩
 | ret u => obtain ⟨v, σ', H', I, r, q⟩ := h; exact ⟨v, σ', H', I.unwish, r, q⟩
theorem PSs.nox {st : List Stmt} {t : TS} (h : PSs X.nox st t) : PSs X st t := fun pins s σ H D I hw =>
 wpAny_mono (h pins s σ H D (I.wish _) hw) (fun _ _ q => q.unwish) fun _ _ z => False.elim z
end
section
variable {X : Cx} {st : Stmt} {rest : List Stmt} {t u : TS} {e : Expr} {te : TE} {pos : Pos}
noncomputable def b8a : TS := fun D σ H => D.nx σ H
noncomputable def tSeq (t u : TS) : TS := fun D σ H => t { D with nx := u D } σ H
theorem b5a : PSs X [] b8a := fun _ _ σ H _ I h => wpAny_execs_nil ⟨σ, H, I, h⟩
theorem b3b (h1 : PS X st t) (h2 : PSs X rest u) : PSs X (st :: rest) (tSeq t u) := by
 intro pins s σ H D I h
 refine wpAny_execs_cons (thn (h1 pins s σ H { D with nx := u D } I h) fun f s1 q => ?_)
 cases f with
 | next =>
   obtain ⟨σ', H', I', q⟩ := q
   exact h2 pins s1 σ' H' D I' q
 | ret v => exact q
 | brk => exact q
 | cont => exact q
theorem b4Z (h1 : PS X st t) : PSs X [st] t := by
 intro pins s σ H D I h
 refine wpAny_execs_cons (thn (h1 pins s σ H D I h) fun f s1 q => ?_)
 cases f with
 | next => exact wpAny_execs_nil q
 | ret v => exact q
 | brk => exact q
 | cont => exact q
theorem Inv.quiet {pins : List (Addr × Obj)} {σ : St} {H : Hp} {s : Shared} (I : Inv X pins σ H s) : interactive X.env = false := by simp [interactive, I.ok.kind]
noncomputable def b8b (te : TE) : TS := fun D σ H => te σ H fun _ H1 => D.nx σ H1
theorem b5c (he : PE X e te) (hs : swapsWith e none pos.line X.env = pure false := by rfl) : PS X (.Expr e pos) (b8b te) := by
 intro pins s σ H D I h
 exact wpAny_Expr_any (thn (he pins s σ H _ I h) fun v s1 ⟨x, H1, I1, r1, q1⟩ => ⟨σ, H1, I1, q1⟩) I.quiet hs
noncomputable def tRet (te : TE) : TS := fun D σ H => te σ H D.rt
theorem b6M (he : PE X e te) : PS X (.Return (some e) pos) (tRet te) := by
 intro pins s σ H D I h
 exact wpAny_Return_some (thn (he pins s σ H _ I h) fun v s1 ⟨x, H1, I1, r1, q1⟩ => ⟨x, σ, H1, I1, r1, q1⟩)
noncomputable def tIfS (c : TT) (t u : TS) : TS := fun D σ H => c σ H fun b H1 => if b = true then t D σ H1 else u D σ H1
theorem b8n {c : Expr} {a b : List Stmt} {tc : TT} (hc : PT X c tc) (ha : PSs X a t) (hb : PSs X b u) : PS X (.If c a b pos) (tIfS tc t u) := by
 intro pins s σ H D I h
 refine wpAny_If (thn (hc pins s σ H _ I h) fun d s1 ⟨H1, I1, q1⟩ => ?_)
 cases d with
 | true => exact ha pins s1 σ H1 D I1 q1
 | false => exact hb pins s1 σ H1 D I1 q1
end
noncomputable abbrev TG := V → St → Hp → (St → Hp → Prop) → Prop
noncomputable abbrev TGs := List V → St → Hp → (St → Hp → Prop) → Prop
noncomputable def PG (X : Cx) (target : Expr) (t : TG) : Prop :=
 ∀ (pins : List (Addr × Obj)) (s : Shared) (σ : St) (H : Hp) (v : V) (u : Value) (Q : St → Hp → Prop), Inv X pins σ H s → RelV v u → t v σ H Q →
   wpAny (model X.prog X.w) X.A (assign target X.env u) (fun _ s' => ∃ σ' H', Inv X pins σ' H' s' ∧ Q σ' H') X.xe s
noncomputable def PGs (X : Cx) (ts : List Expr) (t : TGs) : Prop :=
 ∀ (pins : List (Addr × Obj)) (s : Shared) (σ : St) (H : Hp) (vs : List V) (us : List Value) (Q : St → Hp → Prop), Inv X pins σ H s → Vals vs us → t vs σ H Q →
   wpAny (model X.prog X.w) X.A (assignInOrder ((assignEach ts X.env).map (·.2)) us) (fun _ s' => ∃ σ' H', Inv X pins σ' H' s' ∧ Q σ' H') X.xe s
noncomputable abbrev TSet := V → V → V → Hp → (Hp → Prop) → Prop
noncomputable def PSet (X : Cx) (t : TSet) : Prop :=
 ∀ (pins : List (Addr × Obj)) (s : Shared) (σ : St) (H : Hp) (o i v : V) (ov iv u : Value) (Q : Hp → Prop), Inv X pins σ H s → RelV o ov → RelV i iv → RelV v u → t o i v H Q →
   wpAny (model X.prog X.w) X.A (setItem ov iv u) (fun _ s' => ∃ H', Inv X pins σ H' s' ∧ Q H') X.xe s
noncomputable abbrev TIp := V → V → Hp → VK → Prop
noncomputable def PIp (X : Cx) (op : Operator) (t : TIp) : Prop :=
 ∀ (pins : List (Addr × Obj)) (s : Shared) (σ : St) (H : Hp) (x y : V) (v u : Value) (Q : VK), Inv X pins σ H s → RelV x v → RelV y u → t x y H Q →
   wpAny (model X.prog X.w) X.A (inplaceOp op v u) (EP X pins σ Q) X.xe s
section
variable {X : Cx} {pos : Pos}
noncomputable def a7J (i : Nat) : TG := fun v σ H Q => Q (σ.set i (some v)) H
theorem a2b {i : Nat} {x : Str} (hN : X.N.Nodup) (hi : X.N[i]? = some x) (hx : Loc X.env.scope x) (hf : X.fn x = true ∨ X.env.scope.names.lookup x = some .local := by first | exact .inl rfl | exact .inr rfl | assumption) : PG X (.Name x pos) (a7J i) := by
 intro pins s σ H v u Q I r h
 exact wpAny_assign_Name (a6j I hN hi hx r (fun s' I' => ⟨_, H, I', h⟩) hf)
noncomputable def gNil : TGs := fun vs σ H Q => vs = [] ∧ Q σ H
noncomputable def b3D (t : TG) (u : TGs) : TGs := fun vs σ H Q => ∃ v r, vs = v :: r ∧ t v σ H fun σ' H' => u r σ' H' Q
theorem a8t : PGs X [] gNil := by
 intro pins s σ H vs us Q I r h
 obtain ⟨e, h⟩ := h
 subst e
 cases r
 exact assignInOrder_nil ⟨σ, H, I, h⟩
theorem a4r {e : Expr} {es : List Expr} {t : TG} {u : TGs} (h1 : PG X e t) (h2 : PGs X es u)
  (hs : (assignEach (e :: es) X.env).map (·.2) = assign e X.env :: (assignEach es X.env).map (·.2) := by rfl) : PGs X (e :: es) (b3D t u) := by
 intro pins s σ H vs us Q I r h
 obtain ⟨v, vr, e1, h⟩ := h
 subst e1
 cases r with
 | cons r rr =>
   rw [hs]
   refine assignInOrder_cons (thn (h1 pins s σ H _ _ _ I r h) fun _ s1 ⟨σ1, H1, I1, q1⟩ => ?_)
   exact h2 pins s1 σ1 H1 _ _ Q I1 rr q1
noncomputable def gTup (K : PySem.W.Frag) (n : Nat) (t : TGs) : TG := fun v σ H Q => ∃ a xs, v = .ref a ∧ SqT K H a xs ∧ xs.length = n ∧ t xs σ H Q
theorem b1m {es : List Expr} {k : Nat} {t : TGs} {n : Nat} (hc : X.calm = true) (h : PGs X es t)
  (hn : (assignEach es X.env).length = n := by rfl) (hst : (assignEach es X.env).findIdx? (·.1) = none := by rfl) : PG X (.Tuple es k pos) (gTup X.K n t) := by
 intro pins s σ H v u Q I r hw
 obtain ⟨a, xs, e1, hq, hl, hw⟩ := hw
 subst e1
 cases r
 obtain ⟨its, rv, ht, hz⟩ := I.tuple hq
 refine assign_Tuple_tuple (I.ok.hd hc) ht (by simp [hn, ← hl, rv.length]) hst fun h' hx => ?_
 have I1 : Inv X pins σ H { s with heap := h' } := I.kept (t' := s.toks) fun b o e => hx b o (Nat.ne_of_lt (Heap.lt_size e)) e
 exact h pins _ σ H xs _ Q I1 (by simpa using rv) hw
noncomputable def gSub (to ti : TE) (t : TSet) : TG := fun v σ H Q => to σ H fun o H1 => ti σ H1 fun i H2 => t o i v H2 fun H3 => Q σ H3
theorem b6R {o i : Expr} {to ti : TE} {t : TSet} (ho : PE X o to) (hi : PE X i ti) (hs : PSet X t)
  (ha : ∀ v, assign (.Subscript o i pos) X.env v = (do
   let ov ← holding [v] (eval o X.env)
   let iv ← holding [v, ov] (eval i X.env)
   standAt pos
   holding [v, ov, iv] (setItem ov iv v)
   release [v, ov, iv] []) := by intro _; rfl) : PG X (.Subscript o i pos) (gSub to ti t) := by
 intro pins s σ H v u Q I r h
 rw [ha]
 refine wpAny_bind (wpAny_holding (thn (ho pins s σ H _ I h) fun ov s1 ⟨x, H1, I1, r1, q1⟩ => ?_))
 refine wpAny_bind (wpAny_holding (thn (hi pins s1 σ H1 _ I1 q1) fun iv s2 ⟨y, H2, I2, r2, q2⟩ => ?_))
 refine wpAny_bind (wpAny_standAt (wpAny_bind (wpAny_holding (thn (hs pins s2 σ H2 x y v ov iv u _ I2 r1 r2 r q2) fun _ s3 ⟨H3, I3, q3⟩ => ?_))))
 exact wpAny_release ⟨σ, H3, I3, q3⟩
noncomputable def tAsg (te : TE) (g : TG) : TS := fun D σ H => te σ H fun x H1 => g x σ H1 D.nx
theorem b6P {tg e : Expr} {te : TE} {g : TG} (he : PE X e te) (hg : PG X tg g) (hs : swapsWithSole [tg] e pos.line X.env = pure false := by rfl) (hw : swappedStores [tg] e X.env = pure none := by rfl)
  (h1 : (assignEach [tg] X.env).map (·.2) = [assign tg X.env] := by rfl) : PS X (.Assign [tg] e pos) (tAsg te g) := by
 intro pins s σ H D I h
 refine wpAny_Assign_stores (thn (he pins s σ H _ I h) fun v s1 ⟨x, H1, I1, r1, q1⟩ => ?_) hs hw
 rw [h1]
 exact thn (hg pins s1 σ H1 x v _ I1 r1 q1) fun _ s2 q => q
theorem b6L {i : Nat} {x : Str} {e : Expr} {te : TE} {pos' : Pos} (hN : X.N.Nodup) (hi : X.N[i]? = some x) (hx : Loc X.env.scope x) (he : PE X e te) (hs : swapsWith e (some (.Name x pos')) pos.line X.env = pure false := by rfl) (hf : X.fn x = true ∨ X.env.scope.names.lookup x = some .local := by first | exact .inl rfl | exact .inr rfl | assumption) :
  PS X (.Assign [.Name x pos'] e pos) (tAsg te (a7J i)) := by
 intro pins s σ H D I h
 refine wpAny_Assign_Name (thn (he pins s σ H _ I h) fun v s1 ⟨y, H1, I1, r1, q1⟩ => ?_) hs
 exact a6j I1 hN hi hx r1 (fun s2 I2 => ⟨_, H1, I2, q1⟩) hf
noncomputable def tAug (i : Nat) (te : TE) (ti : TIp) : TS := fun D σ H => ∃ x, σ[i]? = some (some x) ∧ te σ H fun y H1 => ti x y H1 fun z H2 => D.nx (σ.set i (some z)) H2
theorem b6O {i : Nat} {x : Str} {e : Expr} {te : TE} {op : Operator} {ti : TIp} {pos' : Pos} (hN : X.N.Nodup) (hi : X.N[i]? = some x) (hx : Loc X.env.scope x) (he : PE X e te) (ho : PIp X op ti) (hf : X.fn x = true ∨ X.env.scope.names.lookup x = some .local := by first | exact .inl rfl | exact .inr rfl | assumption) :
  PS X (.AugAssign (.Name x pos') op e pos) (tAug i te ti) := by
 intro pins s σ H D I h
 obtain ⟨v, e1, h⟩ := h
 obtain ⟨m, hn, hl⟩ := I.loc
 have vis : Vis X.env.scope x := by rcases hx with k | k; exact .inl k; exact .inr (.inl k)
 obtain ⟨u, r, l⟩ := hl i x v hi e1 vis
 refine wpAny_AugAssign_Name ?_
 have go : wpAny (model X.prog X.w) X.A (eval e X.env) (fun w s₂ => wpAny (model X.prog X.w) X.A (inplaceOp op u w) (fun r s₃ => wpAny (model X.prog X.w) X.A (storeName X.env x r) (fun _ => SP X pins D .next) X.xe s₃) X.xe s₂) X.xe s := by
  refine thn (he pins s σ H _ I h) fun w s1 ⟨y, H1, I1, r1, q1⟩ => ?_
  refine thn (ho pins s1 σ H1 v y u w _ I1 r r1 q1) fun z s2 ⟨zv, H2, I2, r2, q2⟩ => ?_
  exact a6j I2 hN hi hx r2 (fun s3 I3 => ⟨_, H2, I3, q2⟩) hf
 rcases l with ⟨hk, hm⟩ | ⟨hk, c, hc, hcell⟩
 ·exact wpAny_loadName_local I.ok.kind hk hn hm go
 ·rcases hk with hk | hk
  ·exact wpAny_loadName_cell I.ok.kind hk hc hcell go
  ·rcases hx with k | k
   ·have : X.env.scope.names.lookup x = some .free := hk
    rw [k] at this; cases this
   ·have : X.env.scope.names.lookup x = some .free := hk
    rw [k] at this; cases this
noncomputable def ipI (f : Int → Int → Int) : TIp := fun x y H Q => ∃ i j, x = .int i ∧ y = .int j ∧ Q (.int (f i j)) H
theorem b7w : PIp X .Add (ipI fun i j => i + j) := by
 intro pins s σ H x y v u Q I r1 r2 h
 obtain ⟨i, j, e1, e2, q⟩ := h
 subst e1; subst e2
 obtain ⟨t, rfl⟩ := r1
 obtain ⟨t', rfl⟩ := r2
 exact iadd_int ⟨.int _, H, I.tok _, ⟨_, rfl⟩, q⟩
end
section
variable {X : Cx} {pos : Pos}
end
structure It where
 go : Nat → Hp → Prop
 yld : Nat → Hp → V → Hp → Prop
 stop : Nat → Hp → Prop
noncomputable def FpOk (X : Cx) (pins : List (Addr × Obj)) (H : Hp) (b : Addr) : Prop :=
 H b = none ∧ b ≠ X.env.locals ∧ b ∉ X.fs ∧ (b ∈ X.ex ∨ X.s₀.heap.objs.size ≤ b) ∧ (∀ x c, X.env.cells.lookup x = some c → c ≠ b) ∧ ∀ p ∈ X.pn ++ pins, p.1 ≠ b
theorem Inv.fpOk {X : Cx} {pins : List (Addr × Obj)} {σ : St} {H H' : Hp} {s : Shared} {b : Addr} (I : Inv X pins σ H s) (hb : s.heap.objs.size ≤ b) (hn : H' b = none) : FpOk X pins H' b := by
 refine ⟨hn, Nat.ne_of_gt (Nat.lt_of_lt_of_le I.lt hb), I.nofs hb, .inr (Nat.le_trans I.sz hb), fun x c e z => ?_, fun p hp z => ?_⟩
 ·obtain ⟨v, q⟩ := I.cell x c e
  exact absurd (Nat.lt_of_lt_of_le q.lt (by rw [z]; exact hb)) (Nat.lt_irrefl _)
 ·exact absurd (Nat.lt_of_lt_of_le (Heap.lt_size (I.pin p hp).1) (by rw [z]; exact hb)) (Nat.lt_irrefl _)
structure Turn (P : Program) (w : World) (K : PySem.W.Frag) (tg : Expr) (J : It) (fp : List Addr) (it : Addr) (tn : Nat → Heap → Prop) : Prop where
 mem : it ∈ fp
 obj : ∀ i h, tn i h → ∀ b ∈ fp, ∃ o, h.get? b = some o ∧ ∀ v, o.data ≠ .cell v
 keep : ∀ i h h', tn i h → (∀ b ∈ fp, ∀ o, h.get? b = some o → h'.get? b = some o) → tn i h'
 item : ∀ (X : Cx), X.prog = P → X.w = w → X.K = K → X.calm = true → ∀ (i : Nat) (pins : List (Addr × Obj)) (s : Shared) (σ : St) (H : Hp) (E : Value → Shared → Prop), Inv X pins σ H s → (∀ b ∈ fp, FpOk X pins H b) → tn i s.heap → J.go i H →
  wpAny (model P w) X.A (pyNext (.ref it)) (fun r s1 => ∃ u, r = some u ∧
   wpAny (model P w) X.A (letOwnedTupleGo tg (.ref it) u) (fun _ s2 => ∃ x H', Inv X pins σ H' s2 ∧ RelV x u ∧ J.yld i H x H' ∧ tn (i + 1) s2.heap ∧ ∀ b ∈ fp, H' b = none) E s1) E s
 done : ∀ (X : Cx), X.prog = P → X.w = w → X.K = K → X.calm = true → ∀ (i : Nat) (pins : List (Addr × Obj)) (s : Shared) (σ : St) (H : Hp) (E : Value → Shared → Prop), Inv X pins σ H s → (∀ b ∈ fp, FpOk X pins H b) → tn i s.heap → J.stop i H →
  wpAny (model P w) X.A (pyNext (.ref it)) (fun r s1 => r = none ∧ Inv X pins σ H s1) E s
 self : ∀ (A : Around) (i : Nat) (s : Shared) (Q : Value → Shared → Prop) (E : Value → Shared → Prop), tn i s.heap → Q (.ref it) s → wpAny (model P w) A (pyIter (.ref it)) Q E s
noncomputable abbrev TI := St → Hp → (It → Hp → Prop) → Prop
noncomputable def PIE (X : Cx) (pins : List (Addr × Obj)) (σ : St) (tg : Expr) (R : It → Hp → Prop) (itv : Value) (s2 : Shared) : Prop :=
 ∃ (it : Addr) (fp : List Addr) (tn : Nat → Heap → Prop) (J : It) (H' : Hp), itv = .ref it ∧ Inv X pins σ H' s2 ∧ Turn X.prog X.w X.K tg J fp it tn ∧ tn 0 s2.heap ∧ (∀ b ∈ fp, FpOk X pins H' b) ∧ R J H'
noncomputable def PI (X : Cx) (tg iter : Expr) (wi : TI) : Prop :=
 ∀ (pins : List (Addr × Obj)) (s : Shared) (σ : St) (H : Hp) (R : It → Hp → Prop), Inv X pins σ H s → wi σ H R →
   wpAny (model X.prog X.w) X.A (eval iter X.env) (fun v s1 => wpAny (model X.prog X.w) X.A (pyIter v) (PIE X pins σ tg R) X.xe s1) X.xe s
theorem b3C {M : Model} {A : Around} {E : Value → Shared → Prop} {s : Shared} {tg : Expr} {it : Addr} {u : Value} {o : Obj} {n : String} {vs : Array Value} {Q : Unit → Shared → Prop} (ho : s.heap.get? it = some o) (hc : o.cls = .type n) (hd : o.data = .fields vs)
  (hn : ["enumerate", "zip", "dict_itemiterator", "dict_reverseitemiterator", "odict_iterator", "itertools.zip_longest", "itertools.pairwise"].contains n = false) (hQ : Q () s) : wpAny M A (letOwnedTupleGo tg (.ref it) u) Q E s := by
 unfold letOwnedTupleGo
 cases tg <;> first
  | exact wpAny_pure hQ
  | (cases u <;> first
    | exact wpAny_pure hQ
    | (refine wpAny_bind (wpAny_load ho ?_)
       rw [hc, hd]
       show wpAny M A (if (["enumerate", "zip", "dict_itemiterator", "dict_reverseitemiterator", "odict_iterator", "itertools.zip_longest", "itertools.pairwise"].contains n && vs[0]? == some (rawInt _)) = true then _ else _) Q E s
       rw [if_neg (by intro h; rw [hn, Bool.false_and] at h; cases h)]
       exact wpAny_pure hQ))
noncomputable def Itl (K : PySem.W.Frag) (a : Addr) : It :=
 ⟨fun i H => ∃ xs x, SqL K H a xs ∧ xs[i]? = some x, fun i H x H' => H' = H ∧ ∀ xs, SqL K H a xs → xs[i]? = some x, fun i H => ∃ xs, SqL K H a xs ∧ xs.length ≤ i⟩
noncomputable def Itt (K : PySem.W.Frag) (a : Addr) : It :=
 ⟨fun i H => ∃ xs x, SqT K H a xs ∧ xs[i]? = some x, fun i H x H' => H' = H ∧ ∀ xs, SqT K H a xs → xs[i]? = some x, fun i H => ∃ xs, SqT K H a xs ∧ xs.length ≤ i⟩
noncomputable def Itr (lo : Int) (n : Nat) : It := ⟨fun i _ => i < n, fun i H x H' => H' = H ∧ x = .int (lo + i), fun i _ => n ≤ i⟩
theorem b0D {P : Program} {w : World} {K : PySem.W.Frag} {tg : Expr} (a it : Addr) : Turn P w K tg (Itl K a) [it] it (fun i h => h.IsListIter it a i) where
 mem := by simp
 obj := fun i h st b hb => by
  have e : b = it := by simpa using hb
  subst e
  obtain ⟨o, e, c, d⟩ := st
  exact ⟨o, e, fun v z => by rw [d] at z; cases z⟩
 keep := fun i h h' st k => st.at fun o e => k it (by simp) o e
 item := by
  intro X hP hw hK hc i pins s σ H E I hf st hg
  subst hP hw hK
  obtain ⟨xs, x, hq, hx⟩ := hg
  obtain ⟨its, rv, p, hz⟩ := I.list hq
  obtain ⟨u, hu, ru⟩ := rv.get hx
  obtain ⟨f0, f1, f2, f3, f4, f5⟩ := hf it (by simp)
  refine wpAny_pyNext_list_item st p.isList (x := u) (by simpa using hu) fun h' st' sb => ?_
  have I1 : Inv X pins σ H { s with heap := h' } := I.turned (t' := s.toks) (fun b o hb e => (sb.2 b hb).trans e) f0 f1 f3 f4 f5
  obtain ⟨o, e, c, d⟩ := id st'
  exact ⟨u, rfl, b3C (s := { s with heap := h' }) e c d (by decide) ⟨x, H, I1, ru, ⟨rfl, fun ys hy => by rw [I.list_inj hy hq]; exact hx⟩, st', fun b hb => (hf b hb).1⟩⟩
 done := by
  intro X hP hw hK hc i pins s σ H E I hf st hg
  subst hP hw hK
  obtain ⟨xs, hq, hx⟩ := hg
  obtain ⟨its, rv, p, hz⟩ := I.list hq
  obtain ⟨f0, f1, f2, f3, f4, f5⟩ := hf it (by simp)
  have hl := rv.length
  exact wpAny_pyNext_list_end (I.ok.hd hc) st p.isList (by simp; lia) fun h' eb => ⟨rfl, I.turned (t' := s.toks) (fun b o hb e => eb b o hb e) f0 f1 f3 f4 f5⟩
 self := fun _ _ _ _ _ st h => wpAny_pyIter_listiter st h
theorem a9U {P : Program} {w : World} {K : PySem.W.Frag} {tg : Expr} (a it : Addr) : Turn P w K tg (Itt K a) [it] it (fun i h => h.IsTupleIter it a i) where
 mem := by simp
 obj := fun i h st b hb => by
  have e : b = it := by simpa using hb
  subst e
  obtain ⟨o, e, c, d⟩ := st
  exact ⟨o, e, fun v z => by rw [d] at z; cases z⟩
 keep := fun i h h' st k => st.at fun o e => k it (by simp) o e
 item := by
  intro X hP hw hK hc i pins s σ H E I hf st hg
  subst hP hw hK
  obtain ⟨xs, x, hq, hx⟩ := hg
  obtain ⟨its, rv, p, hz⟩ := I.tuple hq
  obtain ⟨u, hu, ru⟩ := rv.get hx
  obtain ⟨f0, f1, f2, f3, f4, f5⟩ := hf it (by simp)
  refine wpAny_pyNext_tuple_item st (show s.heap.IsTuple a its.toArray from p) (x := u) (by simpa using hu) fun h' st' sb => ?_
  have I1 : Inv X pins σ H { s with heap := h' } := I.turned (t' := s.toks) (fun b o hb e => (sb.2 b hb).trans e) f0 f1 f3 f4 f5
  obtain ⟨o, e, c, d⟩ := id st'
  exact ⟨u, rfl, b3C (s := { s with heap := h' }) e c d (by decide) ⟨x, H, I1, ru, ⟨rfl, fun ys hy => by rw [I.tuple_inj hy hq]; exact hx⟩, st', fun b hb => (hf b hb).1⟩⟩
 done := by
  intro X hP hw hK hc i pins s σ H E I hf st hg
  subst hP hw hK
  obtain ⟨xs, hq, hx⟩ := hg
  obtain ⟨its, rv, p, hz⟩ := I.tuple hq
  obtain ⟨f0, f1, f2, f3, f4, f5⟩ := hf it (by simp)
  have hl := rv.length
  exact wpAny_pyNext_tuple_end (I.ok.hd hc) st (show s.heap.IsTuple a its.toArray from p) (by simp; lia) fun h' eb => ⟨rfl, I.turned (t' := s.toks) (fun b o hb e => eb b o hb e) f0 f1 f3 f4 f5⟩
 self := fun _ _ _ _ _ st h => wpAny_pyIter_tupleiter st h
theorem a9V {P : Program} {w : World} {K : PySem.W.Frag} {tg : Expr} (it : Addr) (lo : Int) (n : Nat) : Turn P w K tg (Itr lo n) [it] it (fun i h => IsRangeIter h it (lo + (i : Nat) * 1) ((n : Int) - (i : Nat)) 1) where
 mem := by simp
 obj := fun i h st b hb => by
  have e : b = it := by simpa using hb
  subst e
  exact ⟨_, st, fun v z => by
   have z' : Data.fields _ = Data.cell v := z
   cases z'⟩
 keep := fun i h h' st k => k it (by simp) _ st
 item := by
  intro X hP hw hK hc i pins s σ H E I hf st hg
  subst hP hw hK
  obtain ⟨f0, f1, f2, f3, f4, f5⟩ := hf it (by simp)
  have W := Walks.range (prog := X.prog) (w := X.w) (I.ok.hd hc) it lo 1 n
  refine W.item i s _ _ hg st fun v h' tk hv st' kk => ?_
  obtain ⟨t, rfl⟩ := hv
  have I1 : Inv X pins σ H { s with heap := h', toks := tk } := I.turned (fun b o hb e => kk b o (by simpa using hb) e) f0 f1 f3 f4 f5
  refine ⟨_, rfl, b3C (s := { s with heap := h', toks := tk }) (n := "range_iterator") st' rfl rfl (by decide) ⟨.int (lo + i), H, I1, ⟨t, ?_⟩, ⟨rfl, rfl⟩, st', fun b hb => (hf b hb).1⟩⟩
  rw [Int.mul_one]
 done := by
  intro X hP hw hK hc i pins s σ H E I hf st hg
  subst hP hw hK
  obtain ⟨f0, f1, f2, f3, f4, f5⟩ := hf it (by simp)
  exact wpAny_pyNext_range_end (I.ok.hd hc) st (by have : n ≤ i := hg; lia) fun h' eb => ⟨rfl, I.turned (t' := s.toks) (fun b o hb e => eb b o hb e) f0 f1 f3 f4 f5⟩
 self := fun _ _ _ _ _ st h => wpAny_pyIter_rangeiter st h
section
variable {X : Cx} {tg : Expr}
theorem b2W {pins : List (Addr × Obj)} {σ : St} {H : Hp} {s : Shared} {R : It → Hp → Prop} {E : Value → Shared → Prop} {lo hi : Int} {t u v : Tok} {tk : Nat} (I : Inv X pins σ H s) (h1 : -(2 ^ 62) ≤ lo) (h2 : lo < 2 ^ 62) (h3 : -(2 ^ 62) ≤ hi) (h4 : hi < 2 ^ 62)
  (q : R (Itr lo (hi - lo).toNat) H) : wpAny (model X.prog X.w) X.A (pyIter (.ref s.heap.objs.size)) (PIE X pins σ tg R) E { s with heap := s.heap.push { cls := .type "range", data := .fields #[.int lo t, .int hi u, .int 1 v] }, toks := tk } := by
 refine wpAny_pyIter_range (IsRange.new ..) (small_one h1 h2 h3 h4) ?_
 have I1 : Inv X pins σ H { s with heap := s.heap.push { cls := .type "range", data := .fields #[.int lo t, .int hi u, .int 1 v] }, toks := tk } := I.kept fun b o e => Heap.get?_push_of_some _ e
 refine ⟨(s.heap.push { cls := .type "range", data := .fields #[.int lo t, .int hi u, .int 1 v] }).objs.size, [(s.heap.push { cls := .type "range", data := .fields #[.int lo t, .int hi u, .int 1 v] }).objs.size], _, _, H, rfl,
  I1.kept (t' := tk) fun b o e => Heap.get?_push_of_some _ e, a9V _ lo (hi - lo).toNat, ?_, fun b hb => ?_, q⟩
 ·have e1 : lo + ((0 : Nat) : Int) * 1 = lo := by simp
  have e2 : (((hi - lo).toNat : Nat) : Int) - ((0 : Nat) : Int) = Builtin.Range.rangeSize lo hi 1 := by rw [rangeSize_one]; split <;> lia
  show IsRangeIter _ _ (lo + ((0 : Nat) : Int) * 1) ((((hi - lo).toNat : Nat) : Int) - ((0 : Nat) : Int)) 1
  rw [e1, e2]
  exact Heap.get?_push_size _ rfl
 ·have e : b = (s.heap.push { cls := .type "range", data := .fields #[.int lo t, .int hi u, .int 1 v] }).objs.size := by simpa using hb
  subst e
  exact I1.fpOk (Nat.le_refl _) (I1.hok.fresh (Nat.le_refl _))
noncomputable def b8A (ta : TA) : TI := fun σ H R => ta σ H fun vs H1 => ∃ j : Int, vs = [.int j] ∧ -(2 ^ 62) ≤ j ∧ j < 2 ^ 62 ∧ R (Itr 0 j.toNat) H1
theorem b1l {a : Expr} {ta : TA} {p pos : Pos} (hg : Gl X "range") (hm : X.mg "range" = none) (ha : PA X [a] ta) (hs : starEach [a] X.env = [(false, eval a X.env)] := by rfl) : PI X tg (.Call (.Name "range" p) [a] [] pos) (b8A ta) := by
 intro pins s σ H R I h
 refine Call_ (a2Z I hg hm boot_range (PyProof.Rows.callWith_type1 (thn (ha pos pins s σ H _ I h) fun us s1 ⟨vs, H1, I1, r1, q1⟩ => ?_) hs rfl))
 obtain ⟨j, e, q1, q2, q⟩ := q1
 subst e
 cases r1 with
 | cons r rr =>
   cases rr
   obtain ⟨t, rfl⟩ := r
   exact call_range_1 (b2W I1 (by lia) (by lia) q1 q2 (by simpa using q))
noncomputable def tFor (wi : TI) (g : TG) (tb : TS) : TS := fun D σ H => wi σ H fun J H1 => ∃ W : Nat → Nat → St → Hp → Prop, (∃ m, W 0 m σ H1) ∧ ∀ i m σ H, W i m σ H →
 (J.stop i H ∧ D.nx σ H) ∨ (J.go i H ∧ ∃ N : St → Hp → Prop, (∀ σ' H', N σ' H' → ∃ m', m' < m ∧ W (i + 1) m' σ' H') ∧ ∀ x H', J.yld i H x H' → g x σ H' fun σ2 H2 => tb { D with nx := N, ct := N, bk := D.nx } σ2 H2)
noncomputable def a5L (fp : List Addr) (h : Heap) : List (Addr × Obj) := fp.filterMap fun b => (h.get? b).map fun o => (b, o)
theorem a3M {fp : List Addr} {h : Heap} {b : Addr} {o : Obj} (hb : b ∈ fp) (e : h.get? b = some o) : (b, o) ∈ a5L fp h := List.mem_filterMap.mpr ⟨b, hb, by rw [e]; rfl⟩
theorem b1z {fp : List Addr} {h : Heap} {p : Addr × Obj} (hp : p ∈ a5L fp h) : p.1 ∈ fp ∧ h.get? p.1 = some p.2 := by
 obtain ⟨b, hb, e⟩ := List.mem_filterMap.mp hp
 cases q : h.get? b with
 | none => rw [q] at e; cases e
 | some o =>
   rw [q] at e
   have e' : (b, o) = p := Option.some.inj e
   subst e'
   exact ⟨hb, q⟩
theorem Inv.pinned {pins : List (Addr × Obj)} {σ : St} {H : Hp} {s : Shared} {fp : List Addr} (I : Inv X pins σ H s) (hf : ∀ b ∈ fp, FpOk X pins H b) (ho : ∀ b ∈ fp, ∃ o, s.heap.get? b = some o ∧ ∀ v, o.data ≠ .cell v) : Inv X (pins ++ a5L fp s.heap) σ H s :=
 I.pins_of fun p hp => (List.mem_append.mp hp).elim (fun z => I.pin p (List.mem_append_right _ z)) fun z => by
  obtain ⟨hb, e⟩ := b1z z
  obtain ⟨f0, f1, f2, _⟩ := hf p.1 hb
  obtain ⟨o, e', d⟩ := ho p.1 hb
  rw [e] at e'; cases e'
  exact ⟨e, f0, f1, f2, d⟩
theorem Inv.unpinned {pins pl : List (Addr × Obj)} {σ : St} {H : Hp} {s : Shared} (I : Inv X (pins ++ pl) σ H s) : Inv X pins σ H s := I.pins_of fun p hp => I.pin p (List.mem_append_right _ (List.mem_append_left _ hp))
theorem b6N {iter : Expr} {body : List Stmt} {wi : TI} {g : TG} {tb : TS} {pos : Pos} (hp : PassesOwn (model X.prog X.w) X.A X.env X.xe) (hc : X.calm = true) (hi : PI X tg iter wi) (hg : PG X tg g) (hb : PSs X body tb)
  (hs : ∀ x, foldedSetIterable iter X.env x = pure x := by intro _; rfl) : PS X (.For tg iter body [] pos) (tFor wi g tb) := by
 intro pins s σ H D I h
 refine wpAny_For (thn (hi pins s σ H _ I h) fun v s1 h1 => thn h1 fun itv s2 h2 => ?_) hs
 obtain ⟨it, fp, tn, J, H2, e, I2, T, st2, f2, W, ⟨m0, w0⟩, turn⟩ := h2
 subst e
 -- what stays true of the iterator's objects through the loop
 have stat : ∀ {H' : Hp}, (∀ b ∈ fp, H' b = none) → ∀ b ∈ fp, FpOk X pins H' b := fun hn b hb => ⟨hn b hb, (f2 b hb).2⟩
 refine codeAny_forLoop_any (fun n s' => ∃ i σ' H', Inv X pins σ' H' s' ∧ tn i s'.heap ∧ (∀ b ∈ fp, H' b = none) ∧ W i n σ' H') ?_ m0 ⟨0, σ, H2, I2, st2, fun b hb => (f2 b hb).1, w0⟩
 rintro n s3 ⟨i, σ3, H3, I3, st3, fr3, w3⟩
 rcases turn i n σ3 H3 w3 with ⟨stop, qn⟩ | ⟨go, N, hN, step⟩
 ·refine wpAny_passesOwn hp (thn (T.done X rfl rfl rfl hc i pins s3 σ3 H3 X.xe I3 (stat fr3) st3 stop) fun r s4 ⟨hr, I4⟩ => ?_)
  subst hr
  exact wpAny_execs_nil ⟨σ3, H3, I4, qn⟩
 ·refine wpAny_passesOwn hp (thn (T.item X rfl rfl rfl hc i pins s3 σ3 H3 X.xe I3 (stat fr3) st3 go) fun r s4 ⟨u, hr, h4⟩ => ?_)
  subst hr
  refine wpAny_passesOwn hp (thn h4 fun _ s5 ⟨x, H5, I5, r5, y5, st5, fr5⟩ => ?_)
  have I5' := I5.pinned (stat fr5) (T.obj _ _ st5)
  refine wpAny_passesOwn hp (thn (hg _ s5 σ3 H5 x u _ I5' r5 (step x H5 y5)) fun _ s6 ⟨σ6, H6, I6, q6⟩ => ?_)
  refine wpAny_passesOwn hp (thn (hb _ s6 σ6 H6 _ I6 q6) fun f s7 q7 => ?_)
  have again : ∀ {σ7 : St} {H7 : Hp}, Inv X (pins ++ a5L fp s5.heap) σ7 H7 s7 → N σ7 H7 → ∃ m, m < n ∧ ∃ i σ' H', Inv X pins σ' H' s7 ∧ tn i s7.heap ∧ (∀ b ∈ fp, H' b = none) ∧ W i m σ' H' := fun {σ7 H7} I7 n7 => by
   obtain ⟨m', hm, w7⟩ := hN σ7 H7 n7
   refine ⟨m', hm, i + 1, σ7, H7, I7.unpinned, T.keep _ _ _ st5 fun b hb o e => (I7.pin (b, o) (List.mem_append_right _ (List.mem_append_right _ (a3M hb e)))).1, fun b hb => ?_, w7⟩
   obtain ⟨o, e, d⟩ := T.obj _ _ st5 b hb
   exact (I7.pin (b, o) (List.mem_append_right _ (List.mem_append_right _ (a3M hb e)))).2.1
  cases f with
  | next => obtain ⟨σ7, H7, I7, n7⟩ := q7; exact again I7 n7
  | cont => obtain ⟨σ7, H7, I7, n7⟩ := q7; exact again I7 n7
  | brk => obtain ⟨σ7, H7, I7, q7⟩ := q7; exact ⟨σ7, H7, I7.unpinned, q7⟩
  | ret v => obtain ⟨x7, σ7, H7, I7, r7, q7⟩ := q7; exact ⟨x7, σ7, H7, I7.unpinned, r7, q7⟩
end
noncomputable abbrev R2 := V → V → Hp → VK → Prop
noncomputable def OpR (X : Cx) (f : Value → Value → Sem Value) (r : R2) : Prop :=
 ∀ (pins : List (Addr × Obj)) (s : Shared) (σ : St) (H : Hp) (x y : V) (v u : Value) (Q : VK), Inv X pins σ H s → RelV x v → RelV y u → r x y H Q →
   wpAny (model X.prog X.w) X.A (f v u) (EP X pins σ Q) X.xe s
noncomputable def UnR (X : Cx) (f : Value → Sem Value) (r : V → Hp → VK → Prop) : Prop :=
 ∀ (pins : List (Addr × Obj)) (s : Shared) (σ : St) (H : Hp) (x : V) (v : Value) (Q : VK), Inv X pins σ H s → RelV x v → r x H Q →
   wpAny (model X.prog X.w) X.A (f v) (EP X pins σ Q) X.xe s
noncomputable def a4K (X : Cx) (f : Value) (r : List V → Hp → VK → Prop) : Prop :=
 ∀ (pins : List (Addr × Obj)) (s : Shared) (σ : St) (H : Hp) (xs : List V) (us : List Value) (Q : VK), Inv X pins σ H s → Vals xs us → r xs H Q →
   wpAny (model X.prog X.w) X.A (call f us) (EP X pins σ Q) X.xe s
noncomputable def TruR (X : Cx) (r : V → Hp → (Bool → Hp → Prop) → Prop) : Prop :=
 ∀ (pins : List (Addr × Obj)) (s : Shared) (σ : St) (H : Hp) (x : V) (v : Value) (Q : Bool → Hp → Prop), Inv X pins σ H s → RelV x v → r x H Q →
   wpAny (model X.prog X.w) X.A (truthy v) (TP X pins σ Q) X.xe s
noncomputable def tOp (r : R2) (ta tb : TE) : TE := fun σ H Q => ta σ H fun x H1 => tb σ H1 fun y H2 => r x y H2 Q
noncomputable def tUn (r : V → Hp → VK → Prop) (ta : TE) : TE := fun σ H Q => ta σ H fun x H1 => r x H1 Q
noncomputable def rI (C : Int → Int → Prop) (g : Int → Int → V) : R2 := fun x y H Q => ∃ i j, x = .int i ∧ y = .int j ∧ C i j ∧ Q (g i j) H
noncomputable def rI0 (g : Int → Int → V) : R2 := fun x y H Q => ∃ i j, x = .int i ∧ y = .int j ∧ Q (g i j) H
noncomputable def rU (g : Int → V) : V → Hp → VK → Prop := fun x H Q => ∃ i, x = .int i ∧ Q (g i) H
section
variable {X : Cx} {a b c : Expr} {ta tb tc : TE} {pos : Pos}
theorem binT (ha : PE X a ta) (hb : PE X b tb) {pins : List (Addr × Obj)} {s : Shared} {σ : St} {H : Hp} {R : V → V → Hp → Prop} (I : Inv X pins σ H s)
  (h : ta σ H fun x H1 => tb σ H1 fun y H2 => R x y H2) {Q : Value → Shared → Prop} {f : Value → Value → Sem Value}
  (hf : ∀ v u s2 x y H2, Inv X pins σ H2 s2 → RelV x v → RelV y u → R x y H2 → wpAny (model X.prog X.w) X.A (f v u) Q X.xe s2) :
  wpAny (model X.prog X.w) X.A (eval a X.env) (fun v s₁ => wpAny (model X.prog X.w) X.A (eval b X.env) (fun u s₂ => wpAny (model X.prog X.w) X.A (f v u) Q X.xe s₂) X.xe s₁) X.xe s := by
 refine thn (ha pins s σ H _ I h) fun v s1 ⟨x, H1, I1, r1, q1⟩ => ?_
 refine thn (hb pins s1 σ H1 _ I1 q1) fun u s2 ⟨y, H2, I2, r2, q2⟩ => ?_
 exact hf v u s2 x y H2 I2 r1 r2 q2
theorem b8p {op : Operator} {r : R2} (ho : OpR X (binaryOp op) r) (ha : PE X a ta) (hb : PE X b tb) : PE X (.BinOp a op b pos) (tOp r ta tb) := by
 intro pins s σ H Q I h
 exact wpAny_BinOp (binT ha hb I h fun v u s2 x y H2 I2 rx ry q => ho pins s2 σ H2 x y v u Q I2 rx ry q)
theorem b8o {op : UnaryOp} {r : V → Hp → VK → Prop} (ho : UnR X (unaryOp op) r) (ha : PE X a ta) : PE X (.UnaryOp op a pos) (tUn r ta) := by
 intro pins s σ H Q I h
 exact UnaryOp_ (thn (ha pins s σ H _ I h) fun v s1 ⟨x, H1, I1, r1, q1⟩ => ho pins s1 σ H1 x v Q I1 r1 q1)
theorem opI {f : Value → Value → Sem Value} {C : Int → Int → Prop} {g : Int → Int → Int}
  (rule : ∀ (i j : Int) (t u : Tok) (s : Shared) (Q : Value → Shared → Prop) (E : Value → Shared → Prop), C i j → Q (.int (g i j) s.toks) { s with toks := s.toks + 1 } → wpAny (model X.prog X.w) X.A (f (.int i t) (.int j u)) Q E s) :
  OpR X f (rI C fun i j => .int (g i j)) := by
 intro pins s σ H x y v u Q I rx ry h
 obtain ⟨i, j, rfl, rfl, hc, q⟩ := h
 obtain ⟨t, rfl⟩ := rx
 obtain ⟨t', rfl⟩ := ry
 exact rule i j t t' s _ _ hc ⟨.int (g i j), H, I.tok _, ⟨_, rfl⟩, q⟩
theorem opI0 {f : Value → Value → Sem Value} {g : Int → Int → Int}
  (rule : ∀ (i j : Int) (t u : Tok) (s : Shared) (Q : Value → Shared → Prop) (E : Value → Shared → Prop), Q (.int (g i j) s.toks) { s with toks := s.toks + 1 } → wpAny (model X.prog X.w) X.A (f (.int i t) (.int j u)) Q E s) :
  OpR X f (rI0 fun i j => .int (g i j)) := by
 intro pins s σ H x y v u Q I rx ry h
 obtain ⟨i, j, rfl, rfl, q⟩ := h
 obtain ⟨t, rfl⟩ := rx
 obtain ⟨t', rfl⟩ := ry
 exact rule i j t t' s _ _ ⟨.int (g i j), H, I.tok _, ⟨_, rfl⟩, q⟩
theorem opB0 {f : Value → Value → Sem Value} {g : Int → Int → Bool}
  (rule : ∀ (i j : Int) (t u : Tok) (s : Shared) (Q : Value → Shared → Prop) (E : Value → Shared → Prop), Q (.bool (g i j)) s → wpAny (model X.prog X.w) X.A (f (.int i t) (.int j u)) Q E s) :
  OpR X f (rI0 fun i j => .bl (g i j)) := by
 intro pins s σ H x y v u Q I rx ry h
 obtain ⟨i, j, rfl, rfl, q⟩ := h
 obtain ⟨t, rfl⟩ := rx
 obtain ⟨t', rfl⟩ := ry
 exact rule i j t t' s _ _ ⟨.bl (g i j), H, I, rfl, q⟩
noncomputable def CPow (i j : Int) : Prop := 0 ≤ j ∧ j ≤ 1000000 ∧ i.natAbs < 2 ^ 64
noncomputable def CMul (i j : Int) : Prop := (-(2 ^ 64) < i ∧ i < 2 ^ 64) ∨ (-(2 ^ 64) < j ∧ j < 2 ^ 64)
theorem CMul.ok {i j : Int} (h : CMul i j) : IntMulOk i j := by
 rcases h with ⟨h1, h2⟩ | ⟨h1, h2⟩
 ·exact .of_left (intBits_le_64 h1 h2)
 ·exact .of_right (intBits_le_64 h1 h2)
theorem a9T (k : Nat) : (0 : Int) ≤ 2 ^ k := by
 rw [two_pow_cast]
 exact Int.natCast_nonneg _
theorem b7h : OpR X (binaryOp .Add) (rI0 fun i j => .int (i + j)) := opI0 fun _ _ _ _ _ _ _ q => add_int q
theorem b6Z : OpR X (binaryOp .Sub) (rI0 fun i j => .int (i - j)) := opI0 fun _ _ _ _ _ _ _ q => sub_int q
theorem b7e : OpR X (binaryOp .Mult) (rI CMul fun i j => .int (i * j)) := opI fun _ _ _ _ _ _ _ hc q => mul_int q hc.ok
theorem b7f : OpR X (binaryOp .Mod) (rI (fun _ j => 0 < j) fun i j => .int (i % j)) := opI fun i j _ _ _ _ _ hc q => by
 have h1 : (0 : Int) < j := hc
 exact mod_int' (by lia) (by rw [Int.fmod_eq_emod_of_nonneg i (by lia)]; exact q)
theorem b7d : OpR X (binaryOp .Pow) (rI CPow fun i j => .int (i ^ j.toNat)) := opI fun _ _ _ _ _ _ _ hc q => pow_int_small hc.1 hc.2.1 hc.2.2 q
theorem b7b : OpR X (binaryOp .LShift) (rI CPow fun i j => .int (i * 2 ^ j.toNat)) := opI fun _ _ _ _ _ _ _ hc q => lshift_int_small hc.1 hc.2.1 hc.2.2 q
theorem b7a : OpR X (binaryOp .RShift) (rI (fun _ j => 0 ≤ j) fun i j => .int (i / 2 ^ j.toNat)) := opI fun i j _ _ _ _ _ hc q =>
 rshift_int hc (by rw [Int.fdiv_eq_ediv_of_nonneg i (a9T _)]; exact q)
theorem unI {f : Value → Sem Value} {g : Int → Int}
  (rule : ∀ (i : Int) (t : Tok) (s : Shared) (Q : Value → Shared → Prop) (E : Value → Shared → Prop), Q (.int (g i) s.toks) { s with toks := s.toks + 1 } → wpAny (model X.prog X.w) X.A (f (.int i t)) Q E s) :
  UnR X f (rU fun i => .int (g i)) := by
 intro pins s σ H x v Q I rx h
 obtain ⟨i, rfl, q⟩ := h
 obtain ⟨t, rfl⟩ := rx
 exact rule i t s _ _ ⟨.int (g i), H, I.tok _, ⟨_, rfl⟩, q⟩
theorem b5Y : UnR X (unaryOp .USub) (rU fun i => .int (-i)) := unI fun _ _ _ _ _ q => neg_int q
end
section
variable {X : Cx} {a b c : Expr} {ta tb tc : TE} {pos : Pos}
theorem b8u : OpR X (compareOp .Lt) (rI0 fun i j => .bl (decide (i < j))) := opB0 fun _ _ _ _ _ _ _ q => lt_int q
theorem b8v : OpR X (compareOp .LtE) (rI0 fun i j => .bl (decide (i ≤ j))) := opB0 fun _ _ _ _ _ _ _ q => le_int q
theorem b8w : OpR X (compareOp .Gt) (rI0 fun i j => .bl (decide (j < i))) := opB0 fun _ _ _ _ _ _ _ q => gt_int q
theorem b8x : OpR X (compareOp .GtE) (rI0 fun i j => .bl (decide (j ≤ i))) := opB0 fun _ _ _ _ _ _ _ q => ge_int q
theorem a1C (b : Expr) {op : CmpOp} (h : op ≠ .In := by decide) (h2 : op ≠ .NotIn := by decide) : behindInMarks op b = false := by
 have e1 : (op == CmpOp.In) = false := by cases op <;> first | rfl | exact absurd rfl h
 have e2 : (op == CmpOp.NotIn) = false := by cases op <;> first | rfl | exact absurd rfl h2
 cases b <;> simp [behindInMarks, e1, e2]
theorem b5f {op : CmpOp} {r : R2} (ho : OpR X (compareOp op) r) (ha : PE X a ta) (hb : PE X b tb) (hm : behindInMarks op b = false) : PE X (.Compare a [op] [b] pos) (tOp r ta tb) := by
 intro pins s σ H Q I h
 exact wpAny_Compare1 (binT ha hb I h fun v u s2 x y H2 I2 rx ry q => ho pins s2 σ H2 x y v u Q I2 rx ry q) hm
noncomputable def b6g (t : TE) : TT := fun σ H Q => t σ H fun x H' => ∃ k, x = .bl k ∧ Q k H'
theorem b4Y {op : CmpOp} {r : R2} (ho : OpR X (compareOp op) r) (ha : PE X a ta) (hb : PE X b tb) (hm : behindInMarks op b = false) : PT X (.Compare a [op] [b] pos) (b6g (tOp r ta tb)) := by
 intro pins s σ H Q I h
 refine wpAny_isTrue_Compare1 (thn (ha pins s σ H _ I h) fun v s1 ⟨x, H1, I1, r1, q1⟩ => thn (hb pins s1 σ H1 _ I1 q1) fun u s2 ⟨y, H2, I2, r2, q2⟩ =>
  thn (ho pins s2 σ H2 x y v u _ I2 r1 r2 q2) fun c s3 ⟨z, H3, I3, r3, k, e, q3⟩ => ?_) hm
 subst e
 cases r3
 exact wpAny_truthy_bool ⟨H3, I3, q3⟩
noncomputable def b0J (r r' : R2) (ta tb tc : TE) : TE := fun σ H Q => ta σ H fun x H1 => tb σ H1 fun y H2 => r x y H2 fun z H3 => ∃ k, z = .bl k ∧
 (if k = true then tc σ H3 fun w' H4 => r' y w' H4 Q else Q (.bl false) H3)
theorem b3g {op op' : CmpOp} {r r' : R2} (ho : OpR X (compareOp op) r) (ho' : OpR X (compareOp op') r') (ha : PE X a ta) (hb : PE X b tb) (hc : PE X c tc)
  (hm : lastMarks [op, op'] [b, c] = false := by with_unfolding_all rfl) : PE X (.Compare a [op, op'] [b, c] pos) (b0J r r' ta tb tc) := by
 intro pins s σ H Q I h
 refine Compare_chain (thn (ha pins s σ H _ I h) fun v s1 ⟨x, H1, I1, r1, q1⟩ => chain_link (thn (hb pins s1 σ H1 _ I1 q1) fun u s2 ⟨y, H2, I2, r2, q2⟩ =>
  thn (ho pins s2 σ H2 x y v u _ I2 r1 r2 q2) fun d s3 ⟨z, H3, I3, r3, k, e, q3⟩ => ?_)) hm
 subst e
 cases r3
 refine wpAny_truthy_bool ?_
 cases k with
 | false => exact ite_ff ⟨.bl false, H3, I3, rfl, q3⟩
 | true => exact ite_tt (chain_last (thn (hc pins s3 σ H3 _ I3 q3) fun w' s4 ⟨z', H4, I4, r4, q4⟩ => ho' pins s4 σ H4 y z' u w' Q I4 r2 r4 q4))
theorem b3a {op op' : CmpOp} {r r' : R2} (ho : OpR X (compareOp op) r) (ho' : OpR X (compareOp op') r') (ha : PE X a ta) (hb : PE X b tb) (hc : PE X c tc)
  (hm : lastMarks [op, op'] [b, c] = false := by with_unfolding_all rfl) : PT X (.Compare a [op, op'] [b, c] pos) (b6g (b0J r r' ta tb tc)) := by
 intro pins s σ H Q I h
 refine isTrue_chain (thn (ha pins s σ H _ I h) fun v s1 ⟨x, H1, I1, r1, q1⟩ => test_link (thn (hb pins s1 σ H1 _ I1 q1) fun u s2 ⟨y, H2, I2, r2, q2⟩ =>
  thn (ho pins s2 σ H2 x y v u _ I2 r1 r2 q2) fun d s3 ⟨z, H3, I3, r3, k, e, q3⟩ => ?_)) hm
 subst e
 cases r3
 refine wpAny_truthy_bool ?_
 cases k with
 | false =>
   obtain ⟨k', e', q'⟩ := q3
   cases e'
   exact ite_ff ⟨H3, I3, q'⟩
 | true =>
   refine ite_tt (test_last (thn (hc pins s3 σ H3 _ I3 q3) fun w' s4 ⟨z', H4, I4, r4, q4⟩ => thn (ho' pins s4 σ H4 y z' u w' _ I4 r2 r4 q4) fun d' s5 ⟨z2, H5, I5, r5, k2, e2, q5⟩ => ?_))
   subst e2
   cases r5
   exact wpAny_truthy_bool ⟨H5, I5, q5⟩
noncomputable def TruV (K : PySem.W.Frag) (x : V) (H : Hp) (k : Bool) : Prop :=
 match x with
 | .non => k = false
 | .bl b => k = b
 | .int i => k = (i != 0)
 | .str y => y.length ≤ sizeLine ∧ k = ((y.length : Int) != 0)
 | .byt y => y.size ≤ sizeLine ∧ k = ((y.size : Int) != 0)
 | .ref p => (∃ xs, SqL K H p xs ∧ k = !xs.isEmpty) ∨ (∃ xs, SqT K H p xs ∧ k = !xs.isEmpty) ∨ ∃ kvs, H p = some (.dK kvs) ∧ k = !kvs.isEmpty
 | _ => False
theorem b0s {κ : Type} {kvs : List (κ × V)} {vs : List (κ × Value)} (r : KV kvs vs) : (!vs.isEmpty) = !kvs.isEmpty := by
 cases r <;> rfl
theorem a5S {xs : List V} {its : List Value} (r : Vals xs its) : (!its.toArray.isEmpty) = !xs.isEmpty := by
 cases r <;> simp
theorem a5i : (sizeLine : Nat) < 2 ^ 63 := by rw [sizeLine_eq]; decide
theorem b6b : TruR X (fun x H Q => ∃ k, TruV X.K x H k ∧ Q k H) := by
 intro pins s σ H x v Q I rx h
 obtain ⟨k, e, q⟩ := h
 have hl := a5i
 have hs : sizeLine = 16777216 := sizeLine_eq
 cases x with
 | non =>
   cases rx
   have e' : k = false := e
   subst e'
   exact truthy_none ⟨H, I, q⟩
 | bl b =>
   cases rx
   have e' : k = b := e
   subst e'
   exact wpAny_truthy_bool ⟨H, I, q⟩
 | int i =>
   obtain ⟨t, rfl⟩ := rx
   have e' : k = (i != 0) := e
   subst e'
   exact PySem.P.truthy_int ⟨H, I, q⟩
 | str y =>
   obtain ⟨t, rfl⟩ := rx
   obtain ⟨hy, e'⟩ : y.length ≤ sizeLine ∧ k = ((y.length : Int) != 0) := e
   subst e'
   exact PySem.P.truthy_str (by lia) ⟨H, I.tok _, q⟩
 | byt y =>
   obtain ⟨t, rfl⟩ := rx
   obtain ⟨hy, e'⟩ : y.size ≤ sizeLine ∧ k = ((y.size : Int) != 0) := e
   subst e'
   exact PySem.W.truthy_bytes (by lia) ⟨H, I.tok _, q⟩
 | ref p =>
   cases rx
   have e' : (∃ xs, SqL X.K H p xs ∧ k = !xs.isEmpty) ∨ (∃ xs, SqT X.K H p xs ∧ k = !xs.isEmpty) ∨ ∃ kvs, H p = some (.dK kvs) ∧ k = !kvs.isEmpty := e
   rcases e' with ⟨xs, hx, e'⟩ | ⟨xs, hx, e'⟩ | ⟨kvs, hx, e'⟩
   ·subst e'
    obtain ⟨its, r, pl, hz⟩ := I.list hx
    have hlen := r.length
    exact wpAny_truthy_list pl.isList (by simp only [List.size_toArray]; lia) ⟨H, I.tok _, by rw [a5S r]; exact q⟩
   ·subst e'
    obtain ⟨its, r, pl, hz⟩ := I.tuple hx
    have hlen := r.length
    exact truthy_tuple pl (by simp only [List.size_toArray]; lia) ⟨H, I.tok _, by rw [a5S r]; exact q⟩
   ·subst e'
    obtain ⟨hz, hS, vs, r, m⟩ : kvs.length ≤ sizeLine ∧ (p == sysModules) = false ∧ ∃ vs, KV kvs vs ∧ s.heap.DictOf (a0F X.prog X.w) p vs := I.hok p _ hx
    have hlen : kvs.length = vs.length := Paired.length r
    exact wpAny_truthy_dict hS m (by lia) ⟨H, I.tok _, by rw [b0s r]; exact q⟩
 | _ => exact (show False from e).elim
theorem b2Z (ha : PE X a ta) (he : ∀ whole, isTrue a X.env whole = (do let v ← whole; standAt a.pos; holding [v] (truthy v))) :
  PT X a (fun σ H Q => ta σ H fun x H' => ∃ k, TruV X.K x H' k ∧ Q k H') := by
 intro pins s σ H Q I h
 exact isTrue_plain (thn (ha pins s σ H _ I h) fun v s1 ⟨x, H1, I1, r1, q1⟩ => b6b pins s1 σ H1 x v Q I1 r1 q1) (he _)
theorem b0i : OpR X (binaryOp .Add) (fun x y H Q => ∃ i j, x = .str i ∧ y = .str j ∧ i.length + j.length ≤ sizeLine ∧ Q (.str (i ++ j)) H) := by
 intro pins s σ H x y v u Q I rx ry h
 obtain ⟨i, j, rfl, rfl, hz, q⟩ := h
 obtain ⟨t, rfl⟩ := rx
 obtain ⟨t', rfl⟩ := ry
 exact add_str (fun t' tk => ⟨.str (i ++ j), H, I.tok _, ⟨_, rfl⟩, q⟩) hz
theorem a4h {x : V} {us : List Value} (r : Vals [x] us) : ∃ u, us = [u] ∧ RelV x u := by
 cases r with
 | cons r1 r2 => cases r2; exact ⟨_, rfl, r1⟩
theorem b4u {x y : V} {us : List Value} (r : Vals [x, y] us) : ∃ u w', us = [u, w'] ∧ RelV x u ∧ RelV y w' := by
 cases r with
 | cons r1 r2 =>
   cases r2 with
   | cons r3 r4 => cases r4; exact ⟨_, _, rfl, r1, r3⟩
theorem b3J : a4K X (.builtin "abs") (fun xs H Q => ∃ i, xs = [.int i] ∧ Q (.int (if i < 0 then -i else i)) H) := by
 intro pins s σ H xs us Q I r h
 obtain ⟨i, rfl, q⟩ := h
 obtain ⟨u, rfl, t, rfl⟩ := a4h r
 exact call_abs_int fun u tk => ⟨.int (if i < 0 then -i else i), H, I.tok _, ⟨_, rfl⟩, q⟩
theorem b2w (hc : X.calm = true) : a4K X (.builtin "max") (fun xs H Q => ∃ i j, xs = [.int i, .int j] ∧ Q (.int (if j > i then j else i)) H) := by
 intro pins s σ H xs us Q I r h
 obtain ⟨i, j, rfl, q⟩ := h
 obtain ⟨u, w', rfl, ⟨t, rfl⟩, ⟨t', rfl⟩⟩ := b4u r
 refine max_two_ints (I.ok.hd hc) fun h' tk k => ⟨_, H, I.kept k, ?_, q⟩
 by_cases hj : j > i
 ·rw [if_pos hj, if_pos hj]; exact ⟨_, rfl⟩
 ·rw [if_neg hj, if_neg hj]; exact ⟨_, rfl⟩
theorem b2v (hc : X.calm = true) : a4K X (.builtin "min") (fun xs H Q => ∃ i j, xs = [.int i, .int j] ∧ Q (.int (if j < i then j else i)) H) := by
 intro pins s σ H xs us Q I r h
 obtain ⟨i, j, rfl, q⟩ := h
 obtain ⟨u, w', rfl, ⟨t, rfl⟩, ⟨t', rfl⟩⟩ := b4u r
 refine min_two_ints (I.ok.hd hc) fun h' tk k => ⟨_, H, I.kept k, ?_, q⟩
 by_cases hj : j < i
 ·rw [if_pos hj, if_pos hj]; exact ⟨_, rfl⟩
 ·rw [if_neg hj, if_neg hj]; exact ⟨_, rfl⟩
theorem a7W : a4K X (.type "int") (fun xs H Q => (∃ i, xs = [.int i] ∧ Q (.int i) H) ∨ ∃ k, xs = [.bl k] ∧ Q (.int (if k then 1 else 0)) H) := by
 intro pins s σ H xs us Q I r h
 rcases h with ⟨i, rfl, q⟩ | ⟨k, rfl, q⟩
 ·obtain ⟨u, rfl, t, rfl⟩ := a4h r
  exact call_int_int ⟨.int i, H, I, ⟨_, rfl⟩, q⟩
 ·obtain ⟨u, rfl, r1⟩ := a4h r
  cases r1
  exact call_int_bool ⟨.int (if k then 1 else 0), H, I.tok _, ⟨_, rfl⟩, q⟩
end
structure ObjM (h : Heap) (x dx C : Addr) (mA : Str → Option Value) : Prop where
 obj : h.get? x = some (PySem.W.instObj C dx)
 ns : h.Ns1 dx mA
 ne : dx ≠ x
theorem b1I {h : Heap} {dx : Addr} {mA : Str → Option Value} (n : h.Ns1 dx mA) : ∃ od, h.get? dx = some od ∧ ∀ name, PySem.W.lookIn name od = some (mA name) := by
 obtain ⟨o, es, ep, ho, hd, hk, _, hm⟩ := n
 refine ⟨o, ho, fun name => ?_⟩
 have e := hm name
 unfold nsFind findBy at e
 rw [← Array.find?_toList] at e
 unfold PySem.W.lookIn
 rw [hd]
 dsimp only
 split
 ·rename_i y q
  rw [q] at e
  exact congrArg some e
 ·rename_i q
  rw [q] at e
  have a : es.toList.any (·.refKey) = false := by
   rw [List.any_eq_false]
   intro y hy
   obtain ⟨z, t, hkey⟩ := hk y (Array.mem_toList_iff.mp hy)
   simp [DictEntry.refKey, hkey]
  have a' : ¬ es.toList.any (·.refKey) = true := by rw [a]; exact Bool.false_ne_true
  rw [if_neg a']
  exact congrArg some e
theorem ObjM.look {h : Heap} {x dx C : Addr} {mA : Str → Option Value} (I : ObjM h x dx C mA) : ∃ od, PySem.W.InstAt h x (PySem.W.instObj C dx) C (some od) ∧ ∀ name, PySem.W.lookIn name od = some (mA name) :=
 let ⟨od, ho, hl⟩ := b1I I.ns
 ⟨od, ⟨I.obj, rfl, rfl, ho⟩, hl⟩
section
variable {prog : Program} {w : World} {A : Around} {E : Value → Shared → Prop} {s : Shared} {K : PySem.W.Frag} {x dx C f : Addr} {mA : Str → Option Value} {name : Str} {v : Value}
end
theorem RelO.some_of {v : V} {o : Option Value} (r : RelO (some v) o) : ∃ u, o = some u ∧ RelV v u := by
 cases o with
 | none => exact (show False from r).elim
 | some u => exact ⟨u, rfl, r⟩
section
variable {P : Program} {w : World} {H H' : Hp} {h h' : Heap} {a C dx : Addr} {fs fs' : List (Str × V)}
theorem b5w (hok : HOk P w H h) (e : H a = some (.ins C dx fs)) : ∃ mA, ObjM h a dx C mA ∧ (∀ f, RelO (fs.lookup f) (mA f)) ∧ PySem.Within mA (fs.map (·.1)) ∧ fs.length ≤ 1000 ∧ H dx = some (.own a) := by
 obtain ⟨d, z, ne, ob, mA, n, r, q⟩ := (show a0Q P w H h a (.ins C dx fs) from hok a _ e)
 exact ⟨mA, ⟨ob, n, ne⟩, r, q, z, d⟩
end
structure Cls (K : PySem.W.Frag) (C : Addr) : Prop where
 pg : PySem.W.plainGet K C Str.empty = true
 hd : PySem.W.hasDictIn K C = true
 po : PySem.W.plainOver K C = true
 sa : PySem.W.findIn K (.ref C) "__setattr__" = some (some (.builtin "object.__setattr__"))
theorem Cls.get {K : PySem.W.Frag} {C : Addr} (c : Cls K C) (f : Str) : PySem.W.plainGet K C f = true := c.pg
section
variable {X : Cx} {pins : List (Addr × Obj)} {σ : St} {H : Hp} {s : Shared} {a C dx : Addr} {fs : List (Str × V)} {f : Str} {v : V} {A : Around} {E : Value → Shared → Prop}
end
section
variable {X : Cx} {o e value : Expr} {f : Str} {pos pos' tpos : Pos} {ta tv : TE}
end
section
variable {X : Cx} {pins : List (Addr × Obj)} {σ : St} {H : Hp} {s : Shared} {A : Around} {E : Value → Shared → Prop} {Q : Value → Shared → Prop} {c : Value} {b : Bool}
inductive TyOf (K : PySem.W.Frag) (H : Hp) : V → Value → Prop where
 | non : TyOf K H .non (.type "NoneType")
 | bl (x : Bool) : TyOf K H (.bl x) (.type "bool")
 | int (i : Int) : TyOf K H (.int i) (.type "int")
 | str (x : Str) : TyOf K H (.str x) (.type "str")
 | flt (x : UInt64) : TyOf K H (.flt x) (.type "float")
 | lst {a : Addr} {xs : List V} (e : H a = some (.lst xs)) : TyOf K H (.ref a) (.type "list")
 | frz {a : Addr} {o : Obj} {xs : List V} (e : H a = some (.frz o (.lst xs))) : TyOf K H (.ref a) (.type "list")
 | tup {a : Addr} {xs : List V} (e : H a = some (.tup xs)) : TyOf K H (.ref a) (.type "tuple")
 | dK {a : Addr} {kvs : List (Key × V)} (e : H a = some (.dK kvs)) : TyOf K H (.ref a) (.type "dict")
 | dT {a : Addr} {kvs : List (List Key × V)} (e : H a = some (.dT kvs)) : TyOf K H (.ref a) (.type "dict")
 | ins {a C dx : Addr} {fs : List (Str × V)} (e : H a = some (.ins C dx fs)) (cl : Cls K C) (ha : PySem.W.findIn K (.ref C) "__class__" = some (some (.builtin "object.__class__")))
   (hn : PySem.W.specialIn K (.builtin "object.__class__") "__get__" = some (some (.builtin "getset_descriptor.__get__"))) (htk : PySem.W.takesIn K (.builtin "object.__class__") = some true)
   (hm : PySem.W.mroIn K C (.type "object") = some true) : TyOf K H (.ref a) (.ref C)
theorem a2C {x : V} {u t : Value} (I : Inv X pins σ H s) (rx : RelV x u) (ty : TyOf X.K H x t) (e : PySem.W.kitOne X.K t c = some b) (h : ∀ tk, Q (.bool b) { s with toks := tk }) :
  wpAny (model X.prog X.w) A (call (.builtin "isinstance") [u, c]) Q E s := by
 cases ty with
 | non => cases (show u = Value.none from rx); exact PySem.W.kia_one PySem.W.kitx_none I.kIn True.intro e (fun z => nomatch z) h
 | bl y => cases (show u = Value.bool y from rx); exact PySem.W.kia_one PySem.W.kitx_bool I.kIn True.intro e (fun z => nomatch z) h
 | int i => obtain ⟨t, q⟩ := (show ∃ t, u = Value.int i t from rx); cases q; exact PySem.W.kia_one PySem.W.kitx_int I.kIn True.intro e (fun z => nomatch z) h
 | str y => obtain ⟨t, q⟩ := (show ∃ t, u = Value.str y t from rx); cases q; exact PySem.W.kia_one PySem.W.kitx_str I.kIn True.intro e (fun z => nomatch z) h
 | flt y => obtain ⟨t, q⟩ := (show ∃ t, u = Value.float y t from rx); cases q; exact PySem.W.kia_one PySem.W.kitx_float I.kIn True.intro e (fun z => nomatch z) h
 | @lst a xs ea =>
   cases (show u = Value.ref a from rx)
   obtain ⟨_, _, n, _, h1⟩ := (show a0Q X.prog X.w H s.heap a (.lst xs) from I.hok a _ ea)
   exact PySem.W.kia_one PySem.W.kitx_list I.kIn ⟨_, h1, rfl⟩ e (fun z => nomatch z) h
 | @frz a ob xs ea =>
   cases (show u = Value.ref a from rx)
   obtain ⟨_, _, _, n, _, h1⟩ := (show a0Q X.prog X.w H s.heap a (.frz ob (.lst xs)) from I.hok a _ ea)
   exact PySem.W.kia_one PySem.W.kitx_list I.kIn ⟨_, h1, rfl⟩ e (fun z => nomatch z) h
 | @tup a xs ea =>
   cases (show u = Value.ref a from rx)
   obtain ⟨_, _, _, p⟩ := (show a0Q X.prog X.w H s.heap a (.tup xs) from I.hok a _ ea)
   obtain ⟨o, h1, h2, _⟩ := p
   exact PySem.W.kia_one PySem.W.kitx_tuple I.kIn ⟨o, h1, h2⟩ e (fun z => nomatch z) h
 | @dK a kvs ea =>
   cases (show u = Value.ref a from rx)
   obtain ⟨_, _, vs, _, p⟩ := (show a0Q X.prog X.w H s.heap a (.dK kvs) from I.hok a _ ea)
   obtain ⟨o, es, ep, h1, h2, _⟩ := p
   exact PySem.W.kia_one PySem.W.kitx_dict I.kIn ⟨o, h1, h2.1⟩ e (fun z => nomatch z) h
 | @dT a kvs ea =>
   cases (show u = Value.ref a from rx)
   obtain ⟨_, _, xs, _, o, es, ep, h1, h2, _⟩ := (show a0Q X.prog X.w H s.heap a (.dT kvs) from I.hok a _ ea)
   exact PySem.W.kia_one PySem.W.kitx_dict I.kIn ⟨o, h1, h2.1⟩ e (fun z => nomatch z) h
 | @ins a C dx fs ea cl ha hn htk hm =>
   cases (show u = Value.ref a from rx)
   obtain ⟨mA, O, _⟩ := b5w I.hok ea
   obtain ⟨od, J, _⟩ := O.look
   exact PySem.W.kia_one (PySem.W.kitx_own (cl.get _) cl.hd ha hn htk hm) I.kIn J e (fun z => nomatch z) h
end
structure Room (k : Nat) (A : Around) : Prop where
 hd : A.handled = none
 dp : A.depth + 3 * k + 5 < recursionLimit
 un : A.units + 16 * k + 200 < cLine
theorem Room.mono {j k : Nat} {A : Around} (r : Room k A) (h : j ≤ k) : Room j A := ⟨r.hd, by have := r.dp; lia, by have := r.un; lia⟩
theorem Room.deeper {k : Nat} {A : Around} (r : Room (k + 1) A) (env : Env) : Room k (A.deeper env) :=
 ⟨r.hd, by have := r.dp; show A.depth + 1 + 3 * k + 5 < _; lia, by have := r.un; show A.units + 3 + 16 * k + 200 < _; lia⟩
theorem Room.depth {k : Nat} {A : Around} (r : Room k A) : A.depth < recursionLimit := by have := r.dp; lia
theorem Room.units {k : Nat} {A : Around} (r : Room k A) : A.units + 64 < cLine := by have := r.un; lia
noncomputable def tNil : TA := fun _ H Q => Q [] H
noncomputable def b8d (ta : TE) (tr : TA) : TA := fun σ H Q => ta σ H fun x H1 => tr σ H1 fun xs H2 => Q (x :: xs) H2
section
variable {X : Cx} {e : Expr} {es : List Expr} {te : TE} {t : TA} {pos : Pos}
theorem b4b : PA X [] tNil := fun _ _ _ _ H Q I h => Calls.spliced_nil ⟨[], H, I, .nil, h⟩
theorem a8u (ha : PE X e te) (hr : PA X es t) (hs : starEach (e :: es) X.env = (false, eval e X.env) :: starEach es X.env := by rfl) : PA X (e :: es) (b8d te t) := by
 intro pos pins s σ H Q I h
 rw [hs]
 show wpAny _ _ (spliced ((false, eval e X.env) :: backTo pos (starEach es X.env))) _ _ s
 refine Calls.spliced_cons (thn (ha pins s σ H _ I h) fun u s1 ⟨x, H1, I1, r1, q1⟩ => ?_)
 exact thn (hr pos pins s1 σ H1 _ I1 q1) fun us s2 ⟨xs, H2, I2, r2, q2⟩ => ⟨x :: xs, H2, I2, .cons r1 r2, q2⟩
noncomputable def tTup (t : TA) : TE := fun σ H Q => t σ H fun xs H1 => xs.length ≤ sizeLine ∧ ∀ p, H1 p = none → Q (.ref p) (upd H1 p (.tup xs))
noncomputable def tLst (t : TA) : TE := fun σ H Q => t σ H fun xs H1 => xs.length ≤ sizeLine ∧ ∀ p, H1 p = none → Q (.ref p) (upd H1 p (.lst xs))
theorem b6T {x1} (h : PA X es t) : PE X (.Tuple es x1 pos) (tTup t) := by
 intro pins s σ H Q I hq
 refine wpAny_Tuple_spliced (thn (h pos pins s σ H _ I hq) fun us s1 ⟨xs, H1, I1, r, z, q⟩ => ⟨by rw [← r.length]; exact z, ?_⟩)
 have hf : H1 s1.heap.objs.size = none := I1.hok.fresh (Nat.le_refl _)
 refine ⟨.ref s1.heap.objs.size, upd H1 s1.heap.objs.size (.tup xs), I1.laid (t' := s1.toks) (fun b u e => Heap.get?_push_of_some _ e) (Nat.le_refl _) ?_, rfl, q _ hf⟩
 exact ⟨z, us, r, ⟨_, Heap.get?_push_size _ rfl, rfl, rfl, _, rfl⟩⟩
theorem b6W (h : PA X es t) : PE X (.List es pos) (tLst t) := by
 intro pins s σ H Q I hq
 refine wpAny_List_spliced (thn (h pos pins s σ H _ I hq) fun us s1 ⟨xs, H1, I1, r, z, q⟩ => ⟨by rw [← r.length]; exact z, ?_⟩)
 have hf : H1 s1.heap.objs.size = none := I1.hok.fresh (Nat.le_refl _)
 refine ⟨.ref s1.heap.objs.size, upd H1 s1.heap.objs.size (.lst xs), I1.laid (t' := s1.toks) (fun b u e => Heap.get?_push_of_some _ e) (Nat.le_refl _) ?_, rfl, q _ hf⟩
 exact ⟨z, us, 0, r, Heap.get?_push_size _ rfl⟩
end
noncomputable abbrev Sp := List V → Hp → VK → XK → Prop
noncomputable abbrev CXT := List Env → Hp → Shared → XK → Value → Shared → Prop
structure Env0 (P : Program) (w : World) (K : PySem.W.Frag) (mg : Str → Option Value) (base : Heap) (A : Around) (outer : List Env) (s : Shared) (H : Hp) : Prop where
 frames : A.frames = some outer
 mod : Mod K mg base
 bs : ∀ b o, base.get? b = some o → s.heap.get? b = some o ∧ H b = none
 bsz : base.objs.size ≤ s.heap.objs.size
 funs : s.heap.FunFrames base outer
 frf : ∀ b ∈ frs outer, H b = none
 hok : HOk P w H s.heap
 bare : AllBare s.gens
noncomputable def CE (outer : List Env) (P : Program) (w : World) (H : Hp) (s : Shared) (Q : VK) (u : Value) (s' : Shared) : Prop :=
 ∃ v H', s'.os = s.os ∧ AllBare s'.gens ∧ Un (frs outer) [] H H' s.heap s'.heap ∧ HOk P w H' s'.heap ∧ RelV v u ∧ Q v H'
noncomputable def CR (CX : CXT) (outer : List Env) (P : Program) (w : World) (H : Hp) (s : Shared) (Q : VK) (E : XK) (r : Result) (s' : Shared) : Prop :=
 match r with
 | .ok (.ret u) => CE outer P w H s Q u s'
 | .ok _ => False
 | .error e => CX outer H s E e s'
structure FnOk (P : Program) (w : World) (K : PySem.W.Frag) (mg : Str → Option Value) (base : Heap) (CX : CXT) (k : Nat) (f : Addr) (fd : FuncData) (ps : List Str) (sp : Sp) : Prop where
 len : ∀ vs H Q E, sp vs H Q E → vs.length = ps.length
 run : ∀ (A : Around) (outer : List Env) (s : Shared) (H : Hp) (args : Args) (us : List Value) (vs : List V) (Q : VK) (E : XK), Room k A → Env0 P w K mg base A outer s H → BindsTo s fd args (ps.zip us) → Vals vs us → sp vs H Q E →
  codeAny (model P w) A (.call (.ref f) args) (CR CX outer P w H s Q E) s
theorem FnOk.mono {P : Program} {w : World} {K : PySem.W.Frag} {mg : Str → Option Value} {base : Heap} {CX : CXT} {j k : Nat} {f : Addr} {fd : FuncData} {ps : List Str} {sp : Sp} (F : FnOk P w K mg base CX j f fd ps sp) (h : j ≤ k) :
  FnOk P w K mg base CX k f fd ps sp := ⟨F.len, fun A outer s H args us vs Q E hr => F.run A outer s H args us vs Q E (hr.mono h)⟩
section
variable {X : Cx} {pins : List (Addr × Obj)} {σ : St} {H : Hp} {s s' : Shared}
theorem Inv.env0 (I : Inv X pins σ H s) : Env0 X.prog X.w X.K X.mg X.base X.A X.stack s H :=
 ⟨I.ok.frames, I.ok.mod, I.bs, Nat.le_trans I.ok.bsz I.sz, I.stack, I.stkFree, I.hok, I.bare⟩
theorem Inv.after {Q : VK} {u : Value} (I : Inv X pins σ H s) (h : CE X.stack X.prog X.w H s Q u s') : EP X pins σ Q u s' := by
 obtain ⟨v, H', os, bare, un, hok, r, q⟩ := h
 obtain ⟨hh, g, d, t, os'⟩ := s'
 obtain rfl : os' = s.os := os
 exact ⟨v, H', I.call (h' := hh) (g' := g) (d' := d) (t' := t) (ch := []) un hok bare (fun b z => absurd z (by simp)), r, q⟩
end
noncomputable def b8e (sp : Sp) (dvs : List V) (E : XK) (t : TA) : TE := fun σ H Q => t σ H fun vs H1 => sp (vs ++ dvs) H1 Q E
noncomputable def a0Y (K : PySem.W.Frag) (fd : FuncData) (ps : List Str) (ds : List Value) : Prop :=
 ∀ (s : Shared) (us : List Value), K.In s.heap → (us ++ ds).length = ps.length → BindsTo s fd ⟨us, []⟩ (ps.zip (us ++ ds))
theorem a0Y.all {K : PySem.W.Frag} {fd : FuncData} {ps : List Str} (h : ∀ us : List Value, us.length = ps.length → bindArgs fd ⟨us, []⟩ = pure (ps.zip us)) : a0Y K fd ps [] := fun s us _ hl => by
 rw [List.append_nil] at hl ⊢
 exact .of_eq (h us hl)
noncomputable def b2F (CX : CXT) (X : Cx) (E : XK) : Prop := ∀ (pins : List (Addr × Obj)) (σ : St) (H : Hp) (s : Shared) (e : Value) (s' : Shared), Inv X pins σ H s → CX X.stack H s E e s' → X.xe e s'
section
variable {X : Cx} {CX : CXT} {k : Nat} {f C : Addr} {fd : FuncData} {ps : List Str} {sp : Sp} {dvs : List V} {ds : List Value} {E : XK} {x m : Str} {p pos apos : Pos} {e o : Expr} {es : List Expr} {ta : TE} {t : TA}
theorem b6z {pins : List (Addr × Obj)} {σ : St} {H : Hp} {s : Shared} {Q : VK} {us : List Value} {vs : List V} (F : FnOk X.prog X.w X.K X.mg X.base CX k f fd ps sp) (hr : Room k X.A) (hb : a0Y X.K fd ps ds) (hd : Vals dvs ds) (hx : b2F CX X E)
  (I : Inv X pins σ H s) (r : Vals vs us) (h : sp (vs ++ dvs) H Q E) : wpAny (model X.prog X.w) X.A (call (.ref f) us) (EP X pins σ Q) X.xe s := by
 have r2 : Vals (vs ++ dvs) (us ++ ds) := r.append hd
 have hl : (us ++ ds).length = ps.length := by rw [← r2.length]; exact F.len _ _ _ _ h
 refine wpAny_call (codeAny_mono (F.run X.A X.stack s H ⟨us, []⟩ (us ++ ds) (vs ++ dvs) Q E hr I.env0 (hb s us I.kIn hl) r2 h) fun r s' hq => ?_)
 cases r with
 | error e => exact hx pins σ H s e s' I hq
 | ok fl =>
   cases fl with
   | ret u => exact I.after hq
   | next => exact False.elim hq
   | brk => exact False.elim hq
   | cont => exact False.elim hq
theorem b5g (F : FnOk X.prog X.w X.K X.mg X.base CX k f fd ps sp) (hr : Room k X.A) (hg : Gl X x) (hm : X.mg x = some (.ref f)) (hk : PySem.W.keepIn X.K (.ref f) = true) (hb : a0Y X.K fd ps ds) (hd : Vals dvs ds) (hx : b2F CX X E)
  (ha : PA X (e :: es) t) (hdb : (x == ("__debug__" : Str)) = false := by decide) (he : starEach (e :: es) X.env = (false, eval e X.env) :: starEach es X.env := by rfl) (hpl : (backTo pos (starEach es X.env)).any (·.1) = false := by rfl) :
  PE X (.Call (.Name x p) (e :: es) [] pos) (b8e sp dvs E t) := by
 intro pins s σ H Q I h
 refine wpAny_Call_Name_kw (b1J I hg hm ?_ hdb)
 refine PySem.W.callWith_K (h₀ := X.base) I.ok.mod.kin hk (thn (ha pos pins s σ H _ I h) fun us s1 ⟨vs, H1, I1, r, q⟩ => ⟨I1.kIn, ?_⟩) he hpl
 exact b6z F hr hb hd hx I1 r q
end
section
variable {X : Cx} {CX : CXT} {k : Nat} {f C : Addr} {fd : FuncData} {ps ks : List Str} {sp : Sp} {E : XK} {x m : Str} {p pos apos kpos : Pos} {e o : Expr} {es : List Expr} {kws : List Keyword} {te ta : TE} {t tk : TA} {nm : Option Str}
variable {g : List Value → List Value → List Value} {gV : List V → List V → List V}
end
structure FnScope (N P : List Str) (sc : Scope) : Prop where
 kind : sc.kind = .function
 co : sc.isCoroutine = false
 gen : sc.isGenerator = false
 nd : N.Nodup
 pre : N.take P.length = P
 par : ∀ x ∈ P, sc.names.lookup x = some .local ∨ sc.names.lookup x = some .cell
 nofree : ∀ y ∈ sc.names, y.2 ≠ .free
theorem a7Y {kindOf : Str → Option NameKind} {x : Str} : ∀ {binds : List (Str × Value)} {m : Str → Option Value}, (∀ v, (x, v) ∉ binds) → bindL kindOf binds m x = m x
 | [], _, _ => rfl
 | (n, v) :: r, m, h => by
   unfold bindL
   rw [a7Y fun w hw => h w (List.mem_cons_of_mem _ hw)]
   split
   ·have : x ≠ n := by rintro rfl; exact h v List.mem_cons_self
    simp [this]
   ·rfl
theorem a8a {kindOf : Str → Option NameKind} {x : Str} : ∀ {binds : List (Str × Value)} {m : Str → Option Value}, (∀ v, (x, v) ∉ binds) → bindC kindOf binds m x = m x
 | [], _, _ => rfl
 | (n, v) :: r, m, h => by
   unfold bindC
   rw [a8a fun w hw => h w (List.mem_cons_of_mem _ hw)]
   split
   ·rfl
   ·have : x ≠ n := by rintro rfl; exact h v List.mem_cons_self
    simp [this]
theorem a7Z {kindOf : Str → Option NameKind} {x : Str} {v : Value} : ∀ {P : List Str} {vs : List Value} {i : Nat} {m : Str → Option Value}, P.Nodup → P[i]? = some x → vs[i]? = some v → kindOf x = some .local →
  bindL kindOf (P.zip vs) m x = some v
 | [], _, _, _, _, h, _, _ => by simp at h
 | _ :: _, [], _, _, _, _, h, _ => by simp at h
 | p :: P, w :: vs, 0, m, nd, h1, h2, hk => by
   simp at h1 h2; subst h1; subst h2
   show bindL kindOf ((p, w) :: P.zip vs) m p = _
   unfold bindL
   rw [a7Y fun v hv => (List.nodup_cons.mp nd).1 (List.of_mem_zip hv).1, if_pos hk]
   simp
 | p :: P, w :: vs, i + 1, m, nd, h1, h2, hk => by
   show bindL kindOf ((p, w) :: P.zip vs) m x = _
   unfold bindL
   exact a7Z (i := i) (List.nodup_cons.mp nd).2 (by simpa using h1) (by simpa using h2) hk
theorem a8b {kindOf : Str → Option NameKind} {x : Str} {v : Value} : ∀ {P : List Str} {vs : List Value} {i : Nat} {m : Str → Option Value}, P.Nodup → P[i]? = some x → vs[i]? = some v → kindOf x ≠ some .local →
  bindC kindOf (P.zip vs) m x = some v
 | [], _, _, _, _, h, _, _ => by simp at h
 | _ :: _, [], _, _, _, _, h, _ => by simp at h
 | p :: P, w :: vs, 0, m, nd, h1, h2, hk => by
   simp at h1 h2; subst h1; subst h2
   show bindC kindOf ((p, w) :: P.zip vs) m p = _
   unfold bindC
   rw [a8a fun v hv => (List.nodup_cons.mp nd).1 (List.of_mem_zip hv).1, if_neg hk]
   simp
 | p :: P, w :: vs, i + 1, m, nd, h1, h2, hk => by
   show bindC kindOf ((p, w) :: P.zip vs) m x = _
   unfold bindC
   exact a8b (i := i) (List.nodup_cons.mp nd).2 (by simpa using h1) (by simpa using h2) hk
noncomputable def start (N : List Str) (vs : List V) : St := vs.map some ++ List.replicate (N.length - vs.length) none
noncomputable def cxOf (CX : CXT) (P : Program) (w : World) (K : PySem.W.Frag) (mg : Str → Option Value) (base : Heap) (N : List Str) (qual : Str) (scope : Scope) (f : Addr) (cd : Value) (A : Around) (outer : List Env) (s : Shared) (H : Hp) (E : XK) : Cx where
 prog := P
 w := w
 K := K
 mg := mg
 base := base
 A := A.deeper (envOfC qual scope s.heap.objs.size f cd)
 N := N
 s₀ := s
 H₀ := H
 env := envOfC qual scope s.heap.objs.size f cd
 outer := outer
 stack := envOfC qual scope s.heap.objs.size f cd :: outer
 ex := []
 calm := true
 fn := fun _ => true
 pn := []
 xe := fun e s' => wpAny (model P w) (A.deeper (envOfC qual scope s.heap.objs.size f cd)) (leaving (envOfC qual scope s.heap.objs.size f cd) e) (fun _ s'' => CX outer H s E e s'') (fun e' s'' => CX outer H s E e' s'') s'
theorem a9R {sc : Scope} {n : Nat} {x : Str} (h : sc.names.lookup x = some .cell) : ∃ c, (cellsFrom n sc.names []).lookup x = some c := by
 have q := PySem.W.cellsFrom_some sc.names n [] (.inl h)
 exact Option.isSome_iff_exists.mp q
theorem b1R {CX : CXT} {P : Program} {w : World} {K : PySem.W.Frag} {mg : Str → Option Value} {base : Heap} {N ps : List Str} {qual : Str} {scope : Scope} {f : Addr} {cd : Value} {A : Around} {outer : List Env} {s s1 : Shared} {H : Hp} {E : XK} {us : List Value} {vs : List V}
  (S : FnScope N ps scope) (hd : A.handled = none) (e0 : Env0 P w K mg base A outer s H) (hl : vs.length = ps.length) (r : Vals vs us)
  (x : InCallC s s.heap.objs.size (bindL (envOfC qual scope s.heap.objs.size f cd).kindOf (ps.zip us) fun _ => none) (cellsFrom (s.heap.objs.size + 1) scope.names []) (bindC (envOfC qual scope s.heap.objs.size f cd).kindOf (ps.zip us) fun _ => none) s1) :
  Inv (cxOf CX P w K mg base N qual scope f cd A outer s H E) [] (start N vs) H s1 := by
 have hpl : ps.length ≤ N.length := by have := congrArg List.length S.pre; rw [List.length_take] at this; lia
 obtain ⟨h1, tk, rfl, hk⟩ := x.done
 have noA : ∀ b : Addr, b ∉ (cxOf CX P w K mg base N qual scope f cd A outer s H E).ex := fun b z => absurd (show b ∈ ([] : List Addr) from z) (by simp)
 refine ⟨⟨e0.mod, S.kind, rfl, rfl, Nat.le_refl _, fun y z c h1 h2 => ?_, fun y hy => ?_, fun y c _ h => ?_, fun _ => hd, Around.frames_deeper e0.frames, .inr ⟨rfl, rfl⟩, fun b z => absurd z (noA b), e0.bs, e0.bsz, fun b _ _ => noA b, fun b z => absurd z (noA b), e0.funs, e0.frf⟩,
  rfl, e0.bare, Un.kept hk, ⟨_, x.toInCall.ns, fun i y v h1 h2 h3 => ?_⟩, fun y c h => ⟨_, x.cell y c h⟩, e0.hok.fresh (Nat.le_refl _), fun y c h => ?_, fun p hp => absurd (show p ∈ ([] : List (Addr × Obj)) from hp) (by simp), e0.hok.kept hk, ?_⟩
 ·exact name_of_addr x.apart (PySem.mem_of_lookup h1) (PySem.mem_of_lookup h2)
 ·have hy : scope.names.lookup y = some .cell ∨ scope.names.lookup y = some .free := hy
  rcases hy with hy | hy
  ·exact a9R hy
  ·exact absurd rfl (S.nofree _ (PySem.mem_of_lookup hy))
 ·exact Nat.le_of_lt (x.above y c (PySem.mem_of_lookup h))
 ·have hi : i < vs.length := by
   unfold start at h2
   by_cases hi : i < vs.length
   ·exact hi
   ·rw [List.getElem?_append_right (by simpa using hi)] at h2
    rw [List.getElem?_replicate] at h2
    split at h2 <;> cases h2
  have ha : vs[i]? = some v := by
   unfold start at h2
   rw [List.getElem?_append_left (by simpa using hi), List.getElem?_map] at h2
   cases e : vs[i]? with
   | none => rw [e] at h2; cases h2
   | some a => rw [e] at h2; cases h2; rfl
  obtain ⟨u, hu, rv⟩ := r.get ha
  have hp : ps[i]? = some y := by
   rw [← S.pre, List.getElem?_take_of_lt (by lia)]; exact h1
  have ndP : ps.Nodup := by rw [← S.pre]; exact S.nd.sublist (List.take_sublist _ _)
  refine ⟨u, rv, ?_⟩
  rcases S.par y (List.mem_of_getElem? hp) with k | k
  ·exact .inl ⟨k, a7Z ndP hp hu k⟩
  ·obtain ⟨c, e⟩ := a9R (n := s.heap.objs.size + 1) k
   refine .inr ⟨.inl k, c, e, ?_⟩
   have q := x.cell y c e
   rw [a8b ndP hp hu (by show scope.names.lookup y ≠ _; rw [k]; decide)] at q
   exact q
 ·exact e0.hok.fresh (Nat.le_of_lt (x.above y c (PySem.mem_of_lookup h)))
 ·unfold start
  show _ = N.length
  rw [List.length_append, List.length_map, List.length_replicate]
  lia
theorem b8F {CX : CXT} {P : Program} {w : World} {K : PySem.W.Frag} {mg : Str → Option Value} {base : Heap} {k : Nat} {f : Addr} {name qual : Str} {params : Arguments} {body : List Stmt} {scope : Scope} {dV kV doc pm cdv ct oc : Value} {an od : Option Addr}
  {osl : Array (Option Value)} {N ps : List Str} {sp : Sp} (lk : K.lookup f = some ⟨oc, od, .func (PySem.W.fnOf name qual params body scope dV kV doc pm an cdv ct), osl⟩) (hcd : PySem.W.codeIn K cdv qual = true) (S : FnScope N ps scope)
  (len : ∀ vs H Q E, sp vs H Q E → vs.length = ps.length)
  (hbody : ∀ (A : Around) (outer : List Env) (s : Shared) (H : Hp) (vs : List V) (Q : VK) (E : XK), Room k (A.deeper (envOfC qual scope s.heap.objs.size f cdv)) → sp vs H Q E →
   ∃ t, PSs (cxOf CX P w K mg base N qual scope f cdv A outer s H E) body t ∧ t { nx := fun _ H' => Q .non H', rt := Q } (start N vs) H) :
  FnOk P w K mg base CX (k + 1) f (PySem.W.fnOf name qual params body scope dV kV doc pm an cdv ct) ps sp := by
 refine ⟨len, fun A outer s H args us vs Q E hr e0 hb r hsp => ?_⟩
 have hl := len _ _ _ _ hsp
 have KX : K.In s.heap := e0.mod.kin.keeps fun b o e => (e0.bs b o e).1
 have lim : s.heap.NoLimit := e0.mod.nolimit.keeps fun b o e => (e0.bs b o e).1
 have hkind : ∀ y ∈ ps.zip us, scope.names.lookup y.1 = some .local ∨ (scope.names.lookup y.1 = some .cell ∧ ((cellsFrom (s.heap.objs.size + 1) scope.names []).lookup y.1).isSome = true) := fun ⟨n, v⟩ hy => by
  rcases S.par n (List.of_mem_zip hy).1 with q | q
  ·exact .inl q
  ·exact .inr ⟨q, PySem.W.cellsFrom_some _ _ _ (.inl q)⟩
 refine codeAny_call_function hr.depth (KX _ _ lk) rfl S.co S.gen rfl (PySem.W.codeRec_of KX hcd) (hb _ _ _ _ ?_)
 refine wpAny_newFunctionEnv_cells S.kind hkind fun env he s1 x => ?_
 subst he
 refine ⟨lim.keeps x.toInCall.keep, codeAny_func ?_⟩
 obtain ⟨t, ht, hq⟩ := hbody A outer s H vs Q E (hr.deeper _) hsp
 have I : Inv (cxOf CX P w K mg base N qual scope f cdv A outer s H E) [] (start N vs) H s1 := b1R S hr.hd e0 hl r x
 refine wpAny_mono (ht [] s1 (start N vs) H _ I hq) (fun fl s' hs => ?_) fun e s' hs => hs
 have fin : ∀ {σ' : St} {H' : Hp} {v : V} {u : Value}, Inv (cxOf CX P w K mg base N qual scope f cdv A outer s H E) [] σ' H' s' → RelV v u → Q v H' → CE outer P w H s Q u s' :=
  fun {σ' H' v u} J rv q => ⟨v, H', J.os, J.bare, J.base, J.hok, rv, q⟩
 cases fl with
 | ret u =>
   obtain ⟨v, σ', H', J, rv, q⟩ := hs
   exact fin J rv q
 | next =>
   obtain ⟨σ', H', J, q⟩ := hs
   exact fin (v := V.non) (u := Value.none) J rfl q
 | brk =>
   obtain ⟨_, _, _, q⟩ := hs
   exact False.elim q
 | cont =>
   obtain ⟨_, _, _, q⟩ := hs
   exact False.elim q
section
variable {X : Cx} {x : Str} {p pos : Pos} {e : Expr} {es : List Expr} {t : TA} {id T : String} {r : List V → Hp → VK → Prop}
noncomputable def tCB (r : List V → Hp → VK → Prop) (t : TA) : TE := fun σ H Q => t σ H fun vs H1 => r vs H1 Q
theorem b3h (hc : a4K X (.builtin id) r) (hg : Gl X x) (hm : X.mg x = none) (hv : bootBuiltins x = some (.builtin id)) (ha : PA X (e :: es) t) (hn : x ≠ "__name__" := by decide) (hdb : (x == ("__debug__" : Str)) = false := by decide)
  (he : starEach (e :: es) X.env = (false, eval e X.env) :: starEach es X.env := by rfl) (hpl : (backTo pos (starEach es X.env)).any (·.1) = false := by rfl) : PE X (.Call (.Name x p) (e :: es) [] pos) (tCB r t) := by
 intro pins s σ H Q I h
 refine wpAny_Call_Name_kw (a2Z I hg hm hv ?_ hn hdb)
 exact PyProof.Rows.callWith_builtin1 (thn (ha pos pins s σ H _ I h) fun us s1 ⟨vs, H1, I1, r1, q1⟩ => hc pins s1 σ H1 vs us Q I1 r1 q1) he hpl
theorem b1p (hc : a4K X (.type T) r) (hg : Gl X x) (hm : X.mg x = none) (hv : bootBuiltins x = some (.type T)) (ha : PA X (e :: es) t) (hn : x ≠ "__name__" := by decide) (hdb : (x == ("__debug__" : Str)) = false := by decide)
  (he : starEach (e :: es) X.env = (false, eval e X.env) :: starEach es X.env := by rfl) (hpl : (backTo pos (starEach es X.env)).any (·.1) = false := by rfl) : PE X (.Call (.Name x p) (e :: es) [] pos) (tCB r t) := by
 intro pins s σ H Q I h
 refine wpAny_Call_Name_kw (a2Z I hg hm hv ?_ hn hdb)
 exact PyProof.Rows.callWith_type1 (thn (ha pos pins s σ H _ I h) fun us s1 ⟨vs, H1, I1, r1, q1⟩ => hc pins s1 σ H1 vs us Q I1 r1 q1) he hpl
end
end L2
namespace HT
open PySem PyProof.Rows
section
open PySem.SeqAt
open PySem.AutoSeq1 (wpAny_loadPart')
open PySem.MeetsSeq PySem.MeetsSeq2 PySem.MeetsSeq3
end
section
variable {prog : Program} {w : World} {A : Around} {E : Value → Shared → Prop} {s : Shared}
theorem cat_tup {t b : Addr} {vs ws : List Value} {Q : Value → Shared → Prop} (ht : IsTup s.heap t vs.toArray) (hb : IsTup s.heap b ws.toArray) (hv : vs ≠ [])
  (h1 : ws = [] → Q (.ref t) s) (h2 : ws ≠ [] → Q (.ref s.heap.objs.size) { s with heap := s.heap.push { cls := .type "tuple", data := .seq (vs ++ ws).toArray } })
  (hsz : vs.length + ws.length ≤ sizeLine) : wpAny (model prog w) A (binaryOp .Add (.ref t) (.ref b)) Q E s := by
 obtain ⟨⟨cls, dd, data, sl⟩, ho, hc, n, hd⟩ := id ht
 obtain ⟨⟨cls2, dd2, data2, sl2⟩, ho2, hc2, n2, hd2⟩ := id hb
 simp only at hc hd hc2 hd2
 subst hc hd hc2 hd2
 have e : vs.toArray ++ ws.toArray = (vs ++ ws).toArray := by simp
 by_cases hw : ws = []
 ·exact concat_meets ⟨_, ho, rfl⟩ ⟨_, ho2, rfl⟩ noFill_tuple_add seq_tuple_add PySem.F.slot_tuple_add PySem.F.entry_tuple_add (PySem.F.args_tuple_add_2 _ _)
   (tuple_addW1 t b vs.toArray ws.toArray n n2 dd dd2 sl sl2 (by simpa using hv) (by simp [hw])) ⟨ho, ho2, h1 hw⟩
 ·refine concat_meets ⟨_, ho, rfl⟩ ⟨_, ho2, rfl⟩ noFill_tuple_add seq_tuple_add PySem.F.slot_tuple_add PySem.F.entry_tuple_add (PySem.F.args_tuple_add_2 _ _)
   (tuple_addW2 t b vs.toArray ws.toArray n n2 dd dd2 sl sl2 (by simpa using hv) (by simpa using hw) (by rw [List.size_toArray, List.size_toArray]; exact hsz)) ⟨ho, ho2, ?_⟩
  rw [e]
  exact h2 hw
end
end HT
namespace L2
open PySem PySem.Spec PyProof.Rows
noncomputable abbrev TO := St → Hp → (Option Int → Hp → Prop) → Prop
theorem a5U {ns : List Int} : ∀ {us : List Value}, Vals (ns.map V.int) us → IntsAre us ns := by
 induction ns with
 | nil => intro us r; rw [List.map_nil] at r; cases r; exact .nil
 | cons n ns ih =>
   intro us r
   rw [List.map_cons] at r
   cases r with
   | cons r1 r2 =>
     obtain ⟨t, e⟩ := r1
     subst e
     exact .cons n t (ih r2)
section
variable {X : Cx} {e : Expr} {te : TE} {lo hi : Option Expr} {tl th : TO} {pos p2 : Pos}
noncomputable def b8l (K : PySem.W.Frag) : R2 := fun x y H Q => ∃ a b xs ys, x = .ref a ∧ y = .ref b ∧ SqT K H a xs ∧ SqT K H b ys ∧ xs ≠ [] ∧ xs.length + ys.length ≤ sizeLine ∧
 (ys = [] → Q (.ref a) H) ∧ (ys ≠ [] → ∀ p, H p = none → Q (.ref p) (upd H p (.tup (xs ++ ys))))
theorem Vals.nil_iff {xs : List V} {us : List Value} (r : Vals xs us) : us = [] ↔ xs = [] := by
 cases r with
 | nil => simp
 | cons _ _ => simp
theorem b1r : OpR X (binaryOp .Add) (b8l X.K) := by
 intro pins s σ H x y v u Q I rx ry h
 obtain ⟨a, b, xs, ys, rfl, rfl, ha, hb, hx, hz, q1, q2⟩ := h
 cases rx
 cases ry
 obtain ⟨its, r1, p1, _⟩ := I.tuple ha
 obtain ⟨its2, r2, p2, _⟩ := I.tuple hb
 refine HT.cat_tup p1 p2 (fun z => hx (r1.nil_iff.mp z)) (fun z => ⟨.ref a, H, I, rfl, q1 (r2.nil_iff.mp z)⟩) (fun z => ?_) (by rw [← r1.length, ← r2.length]; exact hz)
 refine ⟨.ref s.heap.objs.size, _, I.laid (t' := s.toks) (o := .tup (xs ++ ys)) (fun b ob q => Heap.get?_push_of_some _ q) (Nat.le_refl _) ?_, rfl, q2 (fun w => z (r2.nil_iff.mpr w)) _ (I.hok.fresh (Nat.le_refl _))⟩
 exact ⟨by rw [List.length_append]; exact hz, _, r1.append r2, a2Q.new _ _⟩
end
noncomputable def ixN (n : Nat) (i : Int) : Option Nat := if 0 ≤ i then (if i < n then some i.toNat else none) else if -(n : Int) ≤ i then some (i + n).toNat else none
noncomputable def atI {α : Type} (xs : List α) (i : Int) : Option α := (ixN xs.length i).bind fun j => xs[j]?
theorem b1O {n : Nat} {i : Int} {j : Nat} (h : ixN n i = some j) : seqIndex? i n = some j ∧ j < n ∧ -(n : Int) ≤ i ∧ i < n := by
 unfold ixN at h
 by_cases h0 : 0 ≤ i
 ·rw [if_pos h0] at h
  by_cases h1 : i < n
  ·rw [if_pos h1] at h
   have e : i.toNat = j := Option.some.inj h
   exact ⟨by rw [seqIndex_of h0 h1, e], by lia, by lia, h1⟩
  ·rw [if_neg h1] at h; cases h
 ·rw [if_neg h0] at h
  by_cases h1 : -(n : Int) ≤ i
  ·rw [if_pos h1] at h
   have e : (i + n).toNat = j := Option.some.inj h
   exact ⟨by rw [seqIndex_neg (by lia) h1, e], by lia, h1, by lia⟩
  ·rw [if_neg h1] at h; cases h
theorem a8S {α : Type} {xs : List α} {i : Int} {v : α} (h : atI xs i = some v) : ∃ j, seqIndex? i xs.length = some j ∧ xs[j]? = some v ∧ j < xs.length ∧ -(xs.length : Int) ≤ i ∧ i < xs.length := by
 unfold atI at h
 cases e : ixN xs.length i with
 | none => rw [e] at h; cases h
 | some j =>
   rw [e] at h
   obtain ⟨h1, h2, h3, h4⟩ := b1O e
   exact ⟨j, h1, h, h2, h3, h4⟩
theorem a2e {α : Type} {xs : List α} {j : Nat} {v : α} (h : xs[j]? = some v) : atI xs (j : Int) = some v := by
 have hj : j < xs.length := (List.getElem?_eq_some_iff.mp h).1
 have e : ixN xs.length (j : Int) = some j := by
  unfold ixN
  rw [if_pos (by lia), if_pos (by lia)]; simp
 unfold atI; rw [e]; exact h
theorem b3K {α : Type} (xs : List α) (v : α) : atI (xs ++ [v]) (-1) = some v := by
 have hl : (xs ++ [v]).length = xs.length + 1 := by simp
 have e : ixN (xs ++ [v]).length (-1) = some xs.length := by
  unfold ixN
  rw [hl, if_neg (by decide), if_pos (by lia)]
  congr 1
  lia
 unfold atI
 rw [e]
 show (xs ++ [v])[xs.length]? = some v
 simp
noncomputable def b2E (b : Expr) : Prop := ∀ o i, subscripted b false o i = operate [o, i] (getItem o i)
noncomputable def IxR (X : Cx) (r : R2) : Prop :=
 ∀ (value slice : Expr) (pins : List (Addr × Obj)) (s : Shared) (σ : St) (H : Hp) (x y : V) (v u : Value) (Q : VK), Inv X pins σ H s → RelV x v → RelV y u → r x y H Q →
   subscripted slice false v u = operate [v, u] (getItem v u) → wpAny (model X.prog X.w) X.A (subscriptTail value slice v u) (EP X pins σ Q) X.xe s
noncomputable def MtR (X : Cx) (id : String) (r : V → List V → Hp → VK → Prop) : Prop :=
 ∀ (pins : List (Addr × Obj)) (s : Shared) (σ : St) (H : Hp) (x : V) (xs : List V) (v : Value) (us : List Value) (Q : VK), Inv X pins σ H s → RelV x v → Vals xs us → r x xs H Q →
   wpAny (model X.prog X.w) X.A (call (.builtin id) (v :: us)) (EP X pins σ Q) X.xe s
section
variable {X : Cx} {a b : Expr} {ta tb : TE} {pos : Pos}
theorem b8q {r : R2} (hr : IxR X r) (ha : PE X a ta) (hb : PE X b tb) (hs : b2E b) : PE X (.Subscript a b pos) (tOp r ta tb) := by
 intro pins s σ H Q I h
 exact Subscript_ (binT ha hb I h fun v u s2 x y H2 I2 rx ry q => hr a b pins s2 σ H2 x y v u Q I2 rx ry q (hs _ _))
noncomputable def rIxL (K : PySem.W.Frag) : R2 := fun x y H Q => ∃ p xs i v, x = .ref p ∧ y = .int i ∧ SqL K H p xs ∧ atI xs i = some v ∧ Q v H
noncomputable def rIxT (K : PySem.W.Frag) : R2 := fun x y H Q => ∃ p xs i v, x = .ref p ∧ y = .int i ∧ SqT K H p xs ∧ atI xs i = some v ∧ Q v H
noncomputable def rIxS : R2 := fun x y H Q => ∃ z i c, x = .str z ∧ y = .int i ∧ z.length ≤ sizeLine ∧ atI z.cps.toList i = some c ∧ Q (.str ⟨#[c]⟩) H
theorem b1N : IxR X (rIxL X.K) := by
 intro value slice pins s σ H x y v u Q I rx ry h hs
 obtain ⟨p, xs, i, z, rfl, rfl, hq, he, q⟩ := h
 cases rx
 obtain ⟨t, rfl⟩ := ry
 obtain ⟨its, r, pl, hz⟩ := I.list hq
 obtain ⟨j, h1, h2, h3, h4, h5⟩ := a8S he
 obtain ⟨w, ew, rw'⟩ := r.get h2
 have hl := r.length
 have hn := a5i
 have fin : EP X pins σ Q w s := ⟨z, H, I, rw', q⟩
 by_cases h0 : 0 ≤ i
 ·have hj : i.toNat = j := by
   rw [seqIndex_of h0 h5] at h1
   exact Option.some.inj h1
  exact item_listR pl.isList h0 (by lia) (by rw [hj]; simpa using ew) fin hs
 ·have hj : (i + (its.toArray.size : Int)).toNat = j := by
   rw [seqIndex_neg (by lia) h4] at h1
   rw [List.size_toArray, ← hl]
   exact Option.some.inj h1
  exact subscriptTail_builtinR (x := w) pl.isList.typeIs slot_list_getitem.lookup
   (wpAny_getItem_list_neg (Q := fun r s' => r = w ∧ EP X pins σ Q r s') pl.isList (by lia) (by rw [List.size_toArray] <;> lia) (by lia) (by rw [hj]; simpa using ew) ⟨rfl, fin⟩) hs
theorem b7u : IxR X (rIxT X.K) := by
 intro value slice pins s σ H x y v u Q I rx ry h hs
 obtain ⟨p, xs, i, z, rfl, rfl, hq, he, q⟩ := h
 cases rx
 obtain ⟨t, rfl⟩ := ry
 obtain ⟨its, r, pl, hz⟩ := I.tuple hq
 obtain ⟨j, h1, h2, h3, h4, h5⟩ := a8S he
 obtain ⟨w, ew, rw'⟩ := r.get h2
 have hl := r.length
 have hn := a5i
 have fin : EP X pins σ Q w s := ⟨z, H, I, rw', q⟩
 exact subscriptTail_builtinR (x := w) pl.typeIs slot_tuple_getitem.lookup
  (getItem_tuple (j := j) (Q := fun r s' => r = w ∧ EP X pins σ Q r s') pl (by lia) (by lia) (by rw [List.size_toArray, ← hl]; exact h1) (by simpa using ew) ⟨rfl, fin⟩) hs
theorem b7v : IxR X rIxS := by
 intro value slice pins s σ H x y v u Q I rx ry h hs
 obtain ⟨z, i, c, rfl, rfl, hz, he, q⟩ := h
 obtain ⟨t, rfl⟩ := rx
 obtain ⟨t', rfl⟩ := ry
 obtain ⟨j, h1, h2, h3, h4, h5⟩ := a8S he
 have hl : z.cps.toList.length = z.length := by simp [Str.length]
 rw [hl] at h1 h4 h5
 have hn := a5i
 exact tail_any (typeIs_str s z t) slot_str_getitem.lookup (getItem_str (c := c) (by
  have e1 : decide (i < -(2 ^ 63 : Int)) = false := decide_eq_false (by lia)
  have e2 : decide (i ≥ 2 ^ 63) = false := decide_eq_false (by lia)
  rw [e1, e2, Bool.or_false]) (by rw [h1]; simpa using h2) ⟨.str ⟨#[c]⟩, H, I.tok _, ⟨_, rfl⟩, q⟩) hs
theorem b0m (its : List Value) (n j : Nat) (u : Value) : Obj.mapSeq (·.setIfInBounds j u) { cls := .type "list", data := .seq its.toArray n } = { cls := .type "list", data := .seq (its.set j u).toArray n } := by
 simp [Obj.mapSeq]
theorem Inv.lst {pins : List (Addr × Obj)} {σ : St} {H : Hp} {s : Shared} {p : Addr} {xs : List V} (I : Inv X pins σ H s) (h : H p = some (.lst xs)) :
  ∃ (its : List Value) (n : Nat), Vals xs its ∧ s.heap.get? p = some { cls := .type "list", data := .seq its.toArray n } ∧ xs.length ≤ sizeLine := by
 obtain ⟨z, its, n, r, e⟩ := I.hok p _ h
 exact ⟨its, n, r, e, z⟩
theorem Inv.lstUpd {pins : List (Addr × Obj)} {σ : St} {H : Hp} {s : Shared} {p : Addr} {xs ys : List V} {its its' : List Value} {n n' : Nat} {f : Obj → Obj} (I : Inv X pins σ H s) (h : H p = some (.lst xs))
  (ho : s.heap.get? p = some { cls := .type "list", data := .seq its.toArray n }) (hf : f { cls := .type "list", data := .seq its.toArray n } = { cls := .type "list", data := .seq its'.toArray n' }) (r : Vals ys its') (hz : ys.length ≤ sizeLine) (t : Nat) :
  Inv X pins σ (upd H p (.lst ys)) { s with heap := s.heap.update p f, toks := t } := by
 have e : (s.heap.update p f).get? p = some { cls := .type "list", data := .seq its'.toArray n' } := by
  rw [Heap.get?_update_self f ho (by rw [hf] <;> rfl), hf]
 refine I.write (x := p) (e := p) (by rw [h]; trivial) (.inl rfl) (fun b u hb q => (Heap.get?_update_other _ _ (Ne.symm hb)).trans q) ⟨_, e⟩ ?_
 exact ⟨hz, its', n', r, e⟩
noncomputable def b8j : V → V → V → Hp → (Hp → Prop) → Prop := fun o i v H Q => ∃ p xs k j, o = .ref p ∧ i = .int k ∧ H p = some (.lst xs) ∧ ixN xs.length k = some j ∧ Q (upd H p (.lst (xs.set j v)))
theorem b2O : PSet X b8j := by
 intro pins s σ H o i v ov iv u Q I ro ri rv h
 obtain ⟨p, xs, k, j, rfl, rfl, hp, hj, q⟩ := h
 cases ro
 obtain ⟨t, rfl⟩ := ri
 obtain ⟨its, n, r, ho, hz⟩ := I.lst hp
 obtain ⟨h1, h2, h3, h4⟩ := b1O hj
 have hl := r.length
 have hn := a5i
 have I' : Inv X pins σ (upd H p (.lst (xs.set j v))) { s with heap := s.heap.update p (Obj.mapSeq (·.setIfInBounds j u)) } :=
  I.lstUpd hp ho (b0m its n j u) (r.set rv j) (by rw [List.length_set]; exact hz) s.toks
 by_cases h0 : 0 ≤ k
 ·have hk : k.toNat = j := by
   rw [seqIndex_of h0 h4] at h1
   exact Option.some.inj h1
  exact PySem.W.ki_setAt ho h0 (by lia) (by rw [List.size_toArray, ← hl]; exact h4) (by rw [hk]; exact ⟨_, I', q⟩)
 ·have hk : (k + (its.toArray.size : Int)).toNat = j := by
   rw [seqIndex_neg (by lia) h3] at h1
   rw [List.size_toArray, ← hl]
   exact Option.some.inj h1
  exact PySem.W.ki_setBack ho (by lia) (by rw [List.size_toArray, ← hl]; exact h3) (by lia) (by rw [hk]; exact ⟨_, I', q⟩)
noncomputable def a5H : V → Bool
 | .non => true
 | .bl _ => true
 | .int _ => true
 | .str _ => true
 | _ => false
noncomputable def eqV : V → V → Bool
 | .non, .non => true
 | .bl a, .bl b => a == b
 | .bl a, .int b => (if a then 1 else 0) == b
 | .int a, .bl b => a == (if b then 1 else 0)
 | .int a, .int b => a == b
 | .str a, .str b => a == b
 | _, _ => false
theorem b7G {A : Around} {s : Shared} {y x : V} {u v : Value} (ry : RelV y u) (rx : RelV x v) (fy : a5H y = true) (fx : a5H x = true) : SeqAt.EqAt A s u v (eqV y x) := by
 cases y with
 | non =>
   cases ry
   cases x with
   | non => cases rx; exact SeqAt.EqAt.same _
   | bl b => cases rx; exact SeqAt.EqAt.none_bool b
   | int b => obtain ⟨t, rfl⟩ := rx; exact SeqAt.EqAt.none_int b t
   | str b => obtain ⟨t, rfl⟩ := rx; exact SeqAt.EqAt.none_str b t
   | _ => exact absurd (show false = true from fx) Bool.false_ne_true
 | bl a =>
   cases ry
   cases x with
   | non => cases rx; exact SeqAt.EqAt.bool_none a
   | bl b => cases rx; exact SeqAt.EqAt.bool_bool a b
   | int b => obtain ⟨t, rfl⟩ := rx; exact SeqAt.EqAt.bool_int a b t
   | str b => obtain ⟨t, rfl⟩ := rx; exact SeqAt.EqAt.bool_str a b t
   | _ => exact absurd (show false = true from fx) Bool.false_ne_true
 | int a =>
   obtain ⟨t', rfl⟩ := ry
   cases x with
   | non => cases rx; exact SeqAt.EqAt.int_none a t'
   | bl b => cases rx; exact SeqAt.EqAt.int_bool a t' b
   | int b => obtain ⟨t, rfl⟩ := rx; exact SeqAt.EqAt.int_int a t' b t
   | str b => obtain ⟨t, rfl⟩ := rx; exact SeqAt.EqAt.int_str a t' b t
   | _ => exact absurd (show false = true from fx) Bool.false_ne_true
 | str a =>
   obtain ⟨t', rfl⟩ := ry
   cases x with
   | non => cases rx; exact SeqAt.EqAt.str_none a t'
   | bl b => cases rx; exact SeqAt.EqAt.str_bool a t' b
   | int b => obtain ⟨t, rfl⟩ := rx; exact SeqAt.EqAt.str_int a t' b t
   | str b => obtain ⟨t, rfl⟩ := rx; exact SeqAt.EqAt.str_str a t' b t
   | _ => exact absurd (show false = true from fx) Bool.false_ne_true
 | _ => exact absurd (show false = true from fy) Bool.false_ne_true
noncomputable def eqU (x : V) (u : Value) : Bool := match u with
 | .none => eqV .non x
 | .bool b => eqV (.bl b) x
 | .int i _ => eqV (.int i) x
 | .str z _ => eqV (.str z) x
 | _ => false
theorem b4h {x y : V} {u : Value} (r : RelV y u) (f : a5H y = true) : eqU x u = eqV y x := by
 cases y with
 | non => cases r; rfl
 | bl b => cases r; rfl
 | int i => obtain ⟨t, rfl⟩ := r; rfl
 | str z => obtain ⟨t, rfl⟩ := r; rfl
 | _ => exact absurd (show false = true from f) Bool.false_ne_true
theorem a8T {x : V} : ∀ {xs : List V} {us : List Value}, Vals xs us → xs.all a5H = true → us.any (eqU x) = xs.any fun y => eqV y x
 | _, _, .nil, _ => rfl
 | y :: xs, u :: us, .cons r t, f => by
   rw [List.all_cons, Bool.and_eq_true] at f
   rw [List.any_cons, List.any_cons, b4h r f.1, a8T t f.2]
theorem a6E {A : Around} {s : Shared} {x : V} {v : Value} (rx : RelV x v) (fx : a5H x = true) : ∀ {xs : List V} {us : List Value}, Vals xs us → xs.all a5H = true → ∀ u ∈ us, SeqAt.EqAt A s u v (eqU x u)
 | _, _, .nil, _ => fun u hu => by cases hu
 | y :: xs, u :: us, .cons r t, f => fun u' hu => by
   rw [List.all_cons, Bool.and_eq_true] at f
   rcases List.mem_cons.mp hu with rfl | hu
   ·rw [b4h r f.1]; exact b7G r rx f.1 fx
   ·exact a6E rx fx t f.2 u' hu
noncomputable def inV (x : V) (xs : List V) : Bool := xs.any fun y => eqV y x
noncomputable def rIn (K : PySem.W.Frag) (neg : Bool) : R2 := fun x y H Q => ∃ p xs, y = .ref p ∧ (SqL K H p xs ∨ SqT K H p xs) ∧ a5H x = true ∧ xs.all a5H = true ∧ Q (.bl (if neg then !inV x xs else inV x xs)) H
theorem a7g : OpR X (compareOp .NotIn) (rIn X.K true) := by
 intro pins s σ H x y v u Q I rx ry h
 obtain ⟨p, xs, rfl, hq, fx, fs, q⟩ := h
 cases ry
 rcases hq with hq | hq
 ·obtain ⟨its, r, pl, hz⟩ := I.list hq
  refine SeqAt.notIn_listAt (eqU x) pl.isList (fun w hw => a6E rx fx r fs w (by simpa using hw)) ⟨.bl _, H, I, rfl, ?_⟩
  rw [show its.toArray.any (eqU x) = its.any (eqU x) by simp, a8T r fs]
  exact q
 ·obtain ⟨its, r, pl, hz⟩ := I.tuple hq
  refine SeqAt.notIn_tupleAt (eqU x) pl (fun w hw => a6E rx fx r fs w (by simpa using hw)) ⟨.bl _, H, I, rfl, ?_⟩
  rw [show its.toArray.any (eqU x) = its.any (eqU x) by simp, a8T r fs]
  exact q
theorem a3G : a4K X (.builtin "len") (fun xs H Q => ∃ p ys, xs = [.ref p] ∧ (SqL X.K H p ys ∨ SqT X.K H p ys) ∧ Q (.int ys.length) H) := by
 intro pins s σ H xs us Q I r h
 obtain ⟨p, ys, rfl, hq, q⟩ := h
 obtain ⟨u, rfl, rx⟩ := a4h r
 cases rx
 have hn := a5i
 rcases hq with hq | hq
 ·obtain ⟨its, r', pl, hz⟩ := I.list hq
  have hlen := r'.length
  exact Calls.call_len_list pl.isList (by simp only [List.size_toArray] <;> lia) ⟨.int ys.length, H, I.tok _, ⟨s.toks + 1, by rw [List.size_toArray, hlen]⟩, q⟩
 ·obtain ⟨its, r', pl, hz⟩ := I.tuple hq
  have hlen := r'.length
  exact len_tuple pl (by simp only [List.size_toArray] <;> lia) ⟨.int ys.length, H, I.tok _, ⟨s.toks + 1, by rw [List.size_toArray, hlen]⟩, q⟩
theorem a7V : a4K X (.builtin "len") (fun xs H Q => ∃ z, xs = [.str z] ∧ z.length ≤ sizeLine ∧ Q (.int z.length) H) := by
 intro pins s σ H xs us Q I r h
 obtain ⟨z, rfl, hz, q⟩ := h
 obtain ⟨u, rfl, t, rfl⟩ := a4h r
 have hn := a5i
 exact len_str (by lia) ⟨.int z.length, H, I.tok _, ⟨_, rfl⟩, q⟩
theorem a3F : a4K X (.type "list") (fun xs H Q => ∃ p ys, xs = [.ref p] ∧ (SqL X.K H p ys ∨ SqT X.K H p ys) ∧ ∀ l, H l = none → Q (.ref l) (upd H l (.lst ys))) := by
 intro pins s σ H xs us Q I r h
 obtain ⟨p, ys, rfl, hq, q⟩ := h
 obtain ⟨u, rfl, rx⟩ := a4h r
 cases rx
 have fin : ∀ (its : List Value), Vals ys its → ys.length ≤ sizeLine → ∀ (h' : Heap) (c' : Nat), (∀ b o', s.heap.get? b = some o' → h'.get? b = some o') →
   h'.get? s.heap.objs.size = some { cls := .type "list", dict := none, data := .seq its.toArray c', slots := #[] } → EP X pins σ Q (.ref s.heap.objs.size) { s with heap := h' } := fun its r' hz h' c' kp e =>
  ⟨.ref s.heap.objs.size, _, I.laid (t' := s.toks) kp (Nat.le_refl _) (show a0Q X.prog X.w _ h' _ (.lst ys) from ⟨hz, its, c', r', e⟩), rfl, q _ (I.hok.fresh (Nat.le_refl _))⟩
 rcases hq with hq | hq
 ·obtain ⟨its, r', pl, hz⟩ := I.list hq
  have hlen := r'.length
  obtain ⟨o, ho, hc, n, hd⟩ := pl.isList
  exact call_list_seq p (.inl rfl) ho hc hd (fun h' c' kp e => fin its r' hz h' c' kp e) (by simp only [List.size_toArray] <;> lia)
 ·obtain ⟨its, r', pl, hz⟩ := I.tuple hq
  have hlen := r'.length
  obtain ⟨o, ho, hc, n, hd⟩ := pl
  exact call_list_seq p (.inr rfl) ho hc hd (fun h' c' kp e => fin its r' hz h' c' kp e) (by simp only [List.size_toArray] <;> lia)
theorem a2q : a4K X (.type "tuple") (fun xs H Q => ∃ p ys, xs = [.ref p] ∧ ((SqL X.K H p ys ∧ ∀ l, H l = none → Q (.ref l) (upd H l (.tup ys))) ∨ (SqT X.K H p ys ∧ Q (.ref p) H))) := by
 intro pins s σ H xs us Q I r h
 obtain ⟨p, ys, rfl, h⟩ := h
 obtain ⟨u, rfl, rx⟩ := a4h r
 cases rx
 rcases h with ⟨hq, q⟩ | ⟨hq, q⟩
 ·obtain ⟨its, r', pl, hz⟩ := I.list hq
  have hlen := r'.length
  refine call_tuple_list pl.isList (fun h' kp => ?_) (by simp only [List.size_toArray] <;> lia)
  have I1 : Inv X pins σ H { s with heap := h' } := I.kept (t' := s.toks) kp
  have I2 : Inv X pins σ (upd H h'.objs.size (.tup ys)) { s with heap := h'.push { cls := .type "tuple", data := .seq its.toArray } } :=
   I1.laid (t' := s.toks) (fun b o e => Heap.get?_push_of_some _ e) (Nat.le_refl _) (show a0Q X.prog X.w _ _ _ (.tup ys) from ⟨hz, its, r', a2Q.new _ _⟩)
  exact ⟨.ref h'.objs.size, _, I2, rfl, q _ (I1.hok.fresh (Nat.le_refl _))⟩
 ·obtain ⟨its, r', pl, hz⟩ := I.tuple hq
  exact call_tuple_same pl ⟨.ref p, H, I, rfl, q⟩
noncomputable def tyV (K : PySem.W.Frag) (T : String) (x : V) (H : Hp) : Prop := match x with
 | .str _ => T = "str"
 | .int _ => T = "int"
 | .ref p => (T = "list" ∧ ∃ xs, SqL K H p xs) ∨ (T = "tuple" ∧ ∃ o, K.lookup p = some o ∧ o.cls = .type "tuple" ∧ o.dict = none) ∨
   (T = "dict" ∧ ((∃ kvs, H p = some (.dK kvs)) ∨ ∃ kvs, H p = some (.dT kvs))) ∨ (T = "set" ∧ ∃ S n, H p = some (.set S n))
 | _ => False
theorem b5Z {pins : List (Addr × Obj)} {σ : St} {H : Hp} {s : Shared} {T : String} {x : V} {v : Value} (I : Inv X pins σ H s) (r : RelV x v) (ty : tyV X.K T x H) :
  s.TypeIs v T ∧ ∀ a, v = .ref a → ∃ ob, s.heap.get? a = some ob ∧ ob.dict = none := by
 cases x with
 | str z =>
   obtain ⟨t, rfl⟩ := r
   cases (show T = "str" from ty)
   exact ⟨typeIs_str s z t, fun _ e => nomatch e⟩
 | int i =>
   obtain ⟨t, rfl⟩ := r
   cases (show T = "int" from ty)
   exact ⟨typeIs_int s i t, fun _ e => nomatch e⟩
 | ref p =>
   cases r
   rcases ty with ⟨rfl, xs, hq⟩ | ⟨rfl, o, hk, hc, hd⟩ | ⟨rfl, hk⟩ | ⟨rfl, S, n, hk⟩
   ·obtain ⟨its, _, pl, _⟩ := I.list hq
    refine ⟨pl.isList.typeIs, fun a e => ?_⟩
    cases e
    obtain ⟨o, n, e, c, hd, _⟩ := pl
    exact ⟨o, e, hd⟩
   ·refine ⟨⟨o, I.kIn p o hk, hc⟩, fun a e => ?_⟩
    cases e
    exact ⟨o, I.kIn _ o hk, hd⟩
   ·have z : ∃ o, s.heap.get? p = some o ∧ o.ExactDict := by
     rcases hk with ⟨kvs, hk⟩ | ⟨kvs, hk⟩
     ·obtain ⟨_, _, _, _, o, _, _, e, ex, _⟩ := I.hok p _ hk
      exact ⟨o, e, ex⟩
     ·obtain ⟨_, _, _, _, o, _, _, e, ex, _⟩ := I.hok p _ hk
      exact ⟨o, e, ex⟩
    obtain ⟨o, e, ex⟩ := z
    refine ⟨⟨o, e, ex.1⟩, fun a e2 => ?_⟩
    cases e2
    exact ⟨o, e, ex.2.1⟩
   ·obtain ⟨o, _, _, _, e, ex, _⟩ := I.hok p _ hk
    refine ⟨⟨o, e, ex.1⟩, fun a e2 => ?_⟩
    cases e2
    exact ⟨o, e, ex.2.1⟩
 | _ => exact False.elim ty
noncomputable def tBM (K : PySem.W.Frag) (T : String) (r : V → List V → Hp → VK → Prop) (to : TE) (t : TA) : TE := fun σ H Q => to σ H fun x H1 => tyV K T x H1 ∧ t σ H1 fun xs H2 => r x xs H2 Q
variable {o e : Expr} {es : List Expr} {to : TE} {t : TA} {name : Str} {apos cpos : Pos} {T id : String} {r : V → List V → Hp → VK → Prop}
theorem b8r (pa : PlainAttrs T) (slot : Slot T name id) (hty : typeOf (.builtin id) = pure (.type "method_descriptor")) (hm : MtR X id r) (ho : PE X o to) (ha : PA X (e :: es) t)
  (hbase : attributeBase o name X.env (eval o X.env) = eval o X.env := by rfl)
  (hfew : ((backTo cpos (starEach (e :: es) X.env)).all (fun x => !x.1) && (backToKw cpos (keywordEach [] X.env)).all (fun x => x.1.isSome)
   && decide ((e :: es).length + ([] : List Keyword).length + (if ([] : List Keyword).isEmpty then 0 else 1) < 30)) = true := by rfl)
  (hline : (apos.endLine == cpos.line) = true := by rfl) (hs : starEach (e :: es) X.env = (false, eval e X.env) :: starEach es X.env := by rfl) (hplain : (backTo cpos (starEach es X.env)).any (·.1) = false := by rfl) :
  PE X (.Call (.Attribute o name apos) (e :: es) [] cpos) (tBM X.K T r to t) := by
 intro pins s σ H Q I h
 refine wpAny_Call_method_late hbase hfew hline rfl (thn (ho pins s σ H _ I h) fun v s1 ⟨x, H1, I1, r1, ty, q1⟩ => ?_)
 obtain ⟨h1, h2⟩ := b5Z I1 r1 ty
 refine ⟨T, id, pa, slot, hty, h1, h2, ?_⟩
 have hA := ha cpos pins s1 σ H1 _ I1 q1
 rw [hs] at hA ⊢
 refine Calls.callWith_builtin (by show (false || (backTo cpos (starEach es X.env)).any (·.1)) = false; rw [hplain] <;> rfl) (Calls.evalArgs_plain ?_)
 exact thn hA fun us s2 ⟨vs, H2, I2, r2, q2⟩ => hm pins s2 σ H2 x vs v us Q I2 r1 r2 q2
end
noncomputable def MtM (X : Cx) (id : String) (r : V → List V → Hp → VK → Prop) : Prop :=
 ∀ (pins : List (Addr × Obj)) (s : Shared) (σ : St) (H : Hp) (x : V) (xs : List V) (v : Value) (us : List Value) (Q : VK), Inv X pins σ H s → RelV x v → Vals xs us → r x xs H Q →
   wpAny (model X.prog X.w) X.A (call (.builtin id) (v :: us)) (EP X pins σ Q) X.xe s
theorem Vals.one : ∀ {x : V} {us : List Value}, Vals [x] us → ∃ u, us = [u] ∧ RelV x u
 | _, _, .cons r .nil => ⟨_, rfl, r⟩
theorem Vals.two : ∀ {x y : V} {us : List Value}, Vals [x, y] us → ∃ u v, us = [u, v] ∧ RelV x u ∧ RelV y v
 | _, _, _, .cons r (.cons q .nil) => ⟨_, _, rfl, r, q⟩
theorem Vals.rep {xs : List V} {us : List Value} (h : Vals xs us) : ∀ k : Nat, Vals (List.replicate k xs).flatten (List.replicate k us).flatten
 | 0 => .nil
 | k + 1 => by
   rw [List.replicate_succ, List.replicate_succ, List.flatten_cons, List.flatten_cons]
   exact Vals.append h (Vals.rep h k)
theorem a5m (its : List Value) : ∀ (k : Nat) (acc : List Value),
  List.foldl (fun x1 x2 => x1 ++ x2) acc.toArray (List.replicate k its.toArray) = (acc ++ (List.replicate k its).flatten).toArray
 | 0, acc => by simp
 | k + 1, acc => by
   have e : acc.toArray ++ its.toArray = (acc ++ its).toArray := by simp
   have e2 : (acc ++ its) ++ (List.replicate k its).flatten = acc ++ (List.replicate (k + 1) its).flatten := by
    rw [List.replicate_succ, List.flatten_cons, List.append_assoc]
   rw [← e2, ← a5m its k (acc ++ its), ← e, List.replicate_succ, List.foldl_cons]
section
variable {X : Cx} {pins : List (Addr × Obj)} {σ : St} {H : Hp} {s : Shared} {l b : Addr} {xs ys zs : List V}
theorem Inv.lset {its its' : List Value} {n : Nat} {f : Array Value → Array Value} {t' : Nat} (I : Inv X pins σ H s) (hH : H l = some (.lst xs))
  (e : s.heap.get? l = some { cls := .type "list", data := .seq its.toArray n }) (hf : f its.toArray = its'.toArray) (hv : Vals ys its') (hz : ys.length ≤ sizeLine) :
  Inv X pins σ (upd H l (.lst ys)) { s with heap := s.heap.update l (Obj.mapSeq f), toks := t' } := by
 have q := PySem.IsL.update e f
 rw [hf] at q
 refine I.write (x := l) (e := l) (by rw [hH]; exact trivial) (.inl rfl) (fun b' u hb hu => (Heap.get?_update_other s.heap (Obj.mapSeq f) (Ne.symm hb)).trans hu) ⟨_, q⟩ ?_
 exact ⟨hz, its', _, hv, q⟩
theorem Inv.lnew {its : List Value} {t' : Nat} (I : Inv X pins σ H s) (hv : Vals ys its) (hz : ys.length ≤ sizeLine) :
  Inv X pins σ (upd H s.heap.objs.size (.lst ys)) { s with heap := s.heap.push { cls := .type "list", data := .seq its.toArray }, toks := t' } :=
 I.laid (fun _ _ q => Heap.get?_push_of_some _ q) (Nat.le_refl _) ⟨hz, its, 0, hv, Heap.get?_push_size _ rfl⟩
theorem Inv.fresh (I : Inv X pins σ H s) : H s.heap.objs.size = none := I.hok.fresh (Nat.le_refl _)
theorem Inv.lstM (I : Inv X pins σ H s) (hH : H l = some (.lst xs)) : xs.length ≤ sizeLine ∧ ∃ (its : List Value) (n : Nat), Vals xs its ∧ xs.length = its.length ∧ s.heap.get? l = some { cls := .type "list", data := .seq its.toArray n } := by
 obtain ⟨z, its, n, r, e⟩ := I.hok l _ hH
 exact ⟨z, its, n, r, r.length, e⟩
theorem b3o {n : Nat} (h : n ≤ sizeLine) : Builtin.List.listTooLong n = false := by
 unfold Builtin.List.listTooLong
 exact decide_eq_false (by lia)
end
section
variable {X : Cx}
noncomputable def b4Q : V → List V → Hp → VK → Prop := fun x vs H Q => ∃ l xs y, x = .ref l ∧ vs = [y] ∧ H l = some (.lst xs) ∧ xs.length < sizeLine ∧ Q .non (upd H l (.lst (xs ++ [y])))
theorem b1D : MtM X "list.append" b4Q := by
 intro pins s σ H x vs v us Q I rx rv h
 obtain ⟨l, xs, y, rfl, rfl, hH, hz, q⟩ := h
 cases rx
 obtain ⟨u, rfl, ru⟩ := rv.one
 obtain ⟨z, its, n, r, hl, e⟩ := I.lstM hH
 refine call_meets F.slot_list_append ⟨_, e, rfl⟩ F.entry_list_append (F.args_list_append_2 _ _) (PySem.list_append l its.toArray n u (by rw [List.size_toArray]; lia)) ⟨e, ?_⟩
 refine ⟨.non, _, I.lset (its' := its ++ [u]) hH e (by simp) (r.append (.cons ru .nil)) ?_, rfl, q⟩
 rw [List.length_append, List.length_singleton]
 lia
noncomputable def rCat : R2 := fun x y H Q => ∃ l b xs zs, x = .ref l ∧ y = .ref b ∧ H l = some (.lst xs) ∧ H b = some (.lst zs) ∧ xs.length + zs.length ≤ sizeLine ∧ ∀ p, H p = none → Q (.ref p) (upd H p (.lst (xs ++ zs)))
theorem b7g : OpR X (binaryOp .Add) rCat := by
 intro pins s σ H x y v u Q I rx ry h
 obtain ⟨l, b, xs, zs, rfl, rfl, hH, hB, hz, q⟩ := h
 cases rx
 cases ry
 obtain ⟨z, its, n, r, hl, e⟩ := I.lstM hH
 obtain ⟨z2, its2, n2, r2, hl2, e2⟩ := I.lstM hB
 refine PySem.P.add_list e e2 ?_ (by rw [List.size_toArray, List.size_toArray]; lia)
 have ea : its.toArray ++ its2.toArray = (its ++ its2).toArray := by simp
 rw [ea]
 exact ⟨.ref _, _, I.lnew (t' := s.toks) (r.append r2) (by rw [List.length_append]; lia), rfl, q _ I.fresh⟩
noncomputable def rRep : R2 := fun x y H Q => ∃ l k xs, x = .ref l ∧ y = .int k ∧ H l = some (.lst xs) ∧ -(2 ^ 63) ≤ k ∧ k < 2 ^ 63 ∧ xs.length * k.toNat ≤ sizeLine ∧
 ∀ p, H p = none → Q (.ref p) (upd H p (.lst (List.replicate k.toNat xs).flatten))
theorem a8C {α : Type} (xs : List α) (k : Nat) : (List.replicate k xs).flatten.length = k * xs.length := by
 induction k with
 | zero => simp
 | succ k ih => rw [List.replicate_succ, List.flatten_cons, List.length_append, ih, Nat.succ_mul, Nat.add_comm]
theorem b7c : OpR X (binaryOp .Mult) rRep := by
 intro pins s σ H x y v u Q I rx ry h
 obtain ⟨l, k, xs, rfl, rfl, hH, h1, h2, hz, q⟩ := h
 cases rx
 obtain ⟨t, rfl⟩ := ry
 obtain ⟨z, its, n, r, hl, e⟩ := I.lstM hH
 have hlen : its.toArray.size * k.toNat ≤ sizeLine := by rw [List.size_toArray, ← hl]; exact hz
 have hcap : ¬ its.toArray.size * k.toNat > (2 ^ 63 - 1) / 8 := by
  have : (sizeLine : Nat) ≤ (2 ^ 63 - 1) / 8 := by decide
  lia
 have hfit : ¬ (!Builtin.List.listFitsIndex k) = true := by
  rw [fitsIndex_both h1 h2]
  exact Bool.false_ne_true
 have hlong : ¬ Builtin.List.listTooLong (its.toArray.size * k.toNat) = true := by
  rw [b3o hlen]
  exact Bool.false_ne_true
 have hnew : List.foldl (fun x1 x2 => x1 ++ x2) #[] (List.replicate (if its.toArray.isEmpty = true then 0 else k.toNat) its.toArray) = (List.replicate k.toNat its).flatten.toArray := by
  have f0 : ∀ m : Nat, List.foldl (fun x1 x2 => x1 ++ x2) #[] (List.replicate m its.toArray) = (List.replicate m its).flatten.toArray := fun m => by
   have := a5m its m []
   rw [List.nil_append] at this
   exact this
  rw [f0]
  cases its with
  | nil => simp
  | cons a r' => rw [if_neg (by simp)]
 refine wpAny_binaryOp_repeat_ref (T := "list") (U := "int") (by decide) ⟨_, e, rfl⟩ (fun s' => typeIs_int s' k t) noFill_list_mul F.fills_int_mul F.slot_int_rmul repeat_list F.slot_int_index.lookup
  (call_meets F.slot_int_rmul (typeIs_int s k t) F.entry_int_rmul (F.args_int_rmul_2 _ _) (int___rmul___int_list k t l its.toArray n)
   ⟨e, rfl, ⟨_, e, rfl⟩, call_meets F.slot_list_mul ⟨_, e, rfl⟩ F.entry_list_mul (F.args_list_mul_2 _ _) (AutoListH.list___mul___list_int_3 l its.toArray n k t hfit hcap hlong) ⟨e, ?_⟩⟩)
 rw [hnew]
 exact ⟨.ref _, _, I.lnew (t' := s.toks) (r.rep k.toNat) (by rw [a8C, Nat.mul_comm]; exact hz), rfl, q _ I.fresh⟩
end
section
variable {prog : Program} {w : World} {A : Around} {E : Value → Shared → Prop} {s : Shared}
end
section
variable {X : Cx}
end
end L2
namespace Att
open PySem PySem.W PySem.Calls PyProof.Rows
theorem a5l {P : Params} {h : Heap} : ∀ (ns : List Int) (vs : List Value), WellAll P h vs (ns.map WData.int) → IntsAre vs ns := by
 intro ns
 induction ns with
 | nil =>
   intro vs w
   rw [List.map_nil] at w
   cases w
   exact .nil
 | cons n ns ih =>
   intro vs w
   rw [List.map_cons] at w
   cases w with
   | cons a b =>
     cases a
     exact .cons _ _ (ih _ b)
theorem b0V {l : OpenLaw} {n : Nat} (hn : l.most = some n) {P : Params} {h : Heap} {args : List WData} {vals : List Value}
  (hpre : l.row.toRowW.claim.pre args = true) (hwl : WellAll P h vals args) :
  ∃ a vs ns, vals = [Value.ref a] ∧ args = [WData.list (ns.map WData.int)] ∧ h.get? a = some { cls := .type "list", data := .seq vs.toArray } ∧ IntsAre vs ns ∧ ns.length ≤ n := by
 have hsh : WShape.hasAll [] args [.list .int] = true := (pre_splitW hpre).1
 have hc : l.pre.holds [] { args := args } = true := (pre_splitW hpre).2
 obtain ⟨d, r, rfl, h1, h2⟩ := hasAllW_cons hsh
 obtain rfl := hasAllW_nil h2
 obtain ⟨xs, rfl, h3⟩ := hasW_list h1
 obtain ⟨ns, rfl⟩ := items_int h3
 have hlen : ns.length ≤ n := by
  unfold OpenLaw.pre at hc
  have h4 : (WTm.not (.lt (.lit (.int (n : Int))) (.len (.arg 0)))).holds [] { args := [.list (ns.map .int)] } = true := by
   have h4 := (holds_andW hc).1
   rw [hn] at h4
   exact h4
  have h5 := condW_of h4 (w_not (w_lt w_lit (w_len_list (w_arg rfl))))
  rw [List.length_map] at h5
  refine Nat.le_of_not_lt fun q => ?_
  have q' : (n : Int) < ((ns.length : Nat) : Int) := by lia
  first
   | (rw [decide_eq_true q'] at h5; exact absurd h5 (by decide))
   | (simp at h5; lia)
 cases hwl with
 | cons w1 w2 =>
   cases w2
   cases w1 with
   | list ho hall => exact ⟨_, _, ns, rfl, rfl, ho, a5l ns _ hall, hlen⟩
theorem b1j (l : OpenLaw) (args : List WData) : l.row.toRowW.claim.post args (.bool true) args = true :=
 postW_of (r := l.row.toRowW) (X := (true == true))
  (show WShape.has [] (.bool true) .bool = true by first | rfl | decide | simp [WShape.has, WShape.arms, WShape.armsAll])
  (show (WTm.eq .res (.lit (.bool true))).value [] { args := args, res := some (.bool true), after := args } = some (.bool (true == true)) from w_eq_bool (w_res rfl) w_lit) rfl
theorem attach_call {l : OpenLaw} {n : Nat} {q : Program} {loose : List Str} {XP : (Str → Option Value) → Heap → Prop} {YP : World → Heap → Prop} {d : DefRec}
  (hn : l.most = some n) (hdf : d.params.defaults = [])
  (call : ∀ (w : World) (s₀ s₁ : Shared) (mg mb : Str → Option Value) (fa : Addr) (o : Obj) (pm cd doc : Value) (a : Addr) (vs : List Value) (ns : List Int),
   Ground q loose [] XP w s₀ mg mb s₁.heap → YP w s₁.heap →
   s₁.heap.get? fa = some o → o.data = .func (docDef d.name d.params d.body d.scope pm cd doc) → s₁.heap.CodeRec cd d.name → mg d.name = some (.ref fa) →
   s₁.heap.get? a = some { cls := .type "list", data := .seq vs.toArray } → IntsAre vs ns → ns.length ≤ n → s₁.gens = #[] →
   codeAny (model l.prog w) callerA (.call (.ref fa) ⟨[.ref a], []⟩) (fun r s' => r = .ok (.ret (.bool true)) ∧ OldK s₁.heap s'.heap ∧ s'.os = s₁.os ∧ AllBare s'.gens) s₁) :
  WalkO q loose XP YP l.row.toRowW d [] (fun f vs => PySem.call f vs) := by
 intro w s₀ s₁ mg mb G Y fa o pm cd doc dV kV ho hd hcd hD hmg hg args vals as hpre hlay hrd hwl hlo
 obtain rfl : dV = .none := Dflts.none hD hdf
 obtain rfl : kV = .none := Dflts.noKw hD
 obtain ⟨a, vs, ns, rfl, rfl, hobj, hints, hlen⟩ := b0V hn hpre hwl
 refine enter_call (codeAny_mono (call w s₀ s₁ mg mb fa o pm cd doc a vs ns G Y ho (fd_plain hd) hcd hmg hobj hints hlen hg) fun r s' hq => ?_)
 obtain ⟨rfl, h2, h3, h4⟩ := hq
 exact ⟨.inl ⟨.bool true, .bool true, [], rfl, fun _ => rfl, .bool true, b1j l _, fun _ => ⟨List.Pairwise.nil, fun _ hm => (nomatch hm)⟩⟩, h2, h3, h4⟩
section
variable {prog : Program} {w : World} {A : Around} {E : Value → Shared → Prop} {s : Shared} {K : Frag}
end
end Att
namespace L2
open PySem PySem.Spec PyProof.Rows
theorem a4g : ∀ {vs : List Value} {ns : List Int}, IntsAre vs ns → Vals (ns.map V.int) vs
 | _, _, .nil => .nil
 | _, _, .cons n t h => .cons ⟨t, rfl⟩ (a4g h)
noncomputable def Only (H : Hp) : Prop := ∀ b, H b = none ∨ ∃ o xs, H b = some (.frz o (.lst xs))
theorem b3r {P : Program} {w : World} {K : PySem.W.Frag} {mg mb : Str → Option Value} {CX : CXT} {k : Nat} {fa a : Addr} {fd : FuncData} {x : Str} {sp : Sp} {s₁ : Shared} {vs : List Value} {ns : List Int}
  (KX : K.In s₁.heap) (hns : s₁.heap.Ns mainGlobals mg) (hb : s₁.heap.Ns builtinsNs mb) (hbb : ∀ x : Str, x ≠ "__name__" → mb x = bootBuiltins x) (hlim : s₁.heap.NoLimit) (hg : s₁.gens = #[])
  (ha : s₁.heap.get? a = some { cls := .type "list", data := .seq vs.toArray }) (hi : IntsAre vs ns) (hl : ns.length ≤ sizeLine) (hr : Room k callerA)
  (F : ∀ base : Heap, K.In base → base.Ns mainGlobals mg → FnOk P w K mg base CX k fa fd [x] sp) (hbind : ∀ (s : Shared) (u : Value), BindsTo s fd ⟨[u], []⟩ [(x, u)])
  (hsp : ∀ H : Hp, Only H → SqL K H a (ns.map V.int) → sp [.ref a] H (fun v _ => v = .bl true) fun _ _ _ => False)
  (hCX : ∀ H e s', CX [] H s₁ (fun _ _ _ => False) e s' → False) :
  codeAny (model P w) callerA (.call (.ref fa) ⟨[.ref a], []⟩) (fun r s' => r = .ok (.ret (.bool true)) ∧ OldK s₁.heap s'.heap ∧ s'.os = s₁.os ∧ AllBare s'.gens) s₁ := by
 have rv := a4g hi
 have lenV := hi.length
 -- from an abstract heap in which nothing but the script may be tracked
 have core : ∀ H : Hp, Only H → SqL K H a (ns.map V.int) → HOk P w H s₁.heap → (∀ b, H b ≠ none → b = a) → (H a ≠ none → K.lookup a = none) →
   codeAny (model P w) callerA (.call (.ref fa) ⟨[.ref a], []⟩) (fun r s' => r = .ok (.ret (.bool true)) ∧ OldK s₁.heap s'.heap ∧ s'.os = s₁.os ∧ AllBare s'.gens) s₁ := by
  intro H hO hS hok hA hK
  have base_of : ∀ {b : Addr} {o : Obj}, s₁.heap.get? b = some o → H b = none → (hidT s₁.heap H).get? b = some o := fun e n => b3y e n
  have noA : ∀ {b : Addr} {o : Obj} {es : Array DictEntry} {ep : Nat}, s₁.heap.get? b = some o → o.data = .dict es ep → H b = none := fun {b o es ep} e d => by
   cases q : H b with
   | none => rfl
   | some u =>
     have e' : b = a := hA b (by rw [q]; simp)
     subst e'
     rw [ha] at e; cases e
     have d' : Data.seq vs.toArray _ = Data.dict es ep := d
     cases d'
  have nsK : ∀ {b : Addr} {m : Str → Option Value}, s₁.heap.Ns b m → (hidT s₁.heap H).Ns b m := fun {b m} ⟨o, es, ep, e, d, r⟩ => ⟨o, es, ep, base_of e (noA e d), d, r⟩
  have hKb : K.In (hidT s₁.heap H) := fun b o e => base_of (KX b o e) (by
   cases q : H b with
   | none => rfl
   | some u =>
     have e' : b = a := hA b (by rw [q]; simp)
     subst e'
     rw [hK (by rw [q]; simp)] at e; cases e)
  have hM : Mod K mg (hidT s₁.heap H) := ⟨hKb, nsK hns, ⟨mb, nsK hb, hbb⟩, let ⟨mc, h1, h2⟩ := hlim; ⟨mc, nsK h1, h2⟩⟩
  have e0 : Env0 P w K mg (hidT s₁.heap H) callerA [] s₁ H := ⟨rfl, hM, fun b o e => b5o e, Nat.le_of_eq (b1W _ _), trivial, fun b hb => absurd (show b ∈ ([] : List Addr) from hb) (by simp), hok, .of_eq hg⟩
  refine codeAny_mono ((F _ hKb (nsK hns)).run callerA [] s₁ H ⟨[.ref a], []⟩ [.ref a] [.ref a] _ _ hr e0 (hbind s₁ (.ref a)) (.cons rfl .nil) (hsp H hO hS)) fun r s' h => ?_
  cases r with
  | error e => exact (hCX H e s' h).elim
  | ok fl =>
    cases fl with
    | next => exact False.elim h
    | brk => exact False.elim h
    | cont => exact False.elim h
    | ret u =>
      obtain ⟨v, H', os, bare, un, hok', r', q⟩ := h
      have q' : v = .bl true := q
      subst q'
      obtain rfl : u = Value.bool true := r'
      refine ⟨rfl, OldK.of_keep fun b o e => ?_, os, bare⟩
      cases q : H b with
      | none => exact un.keep b o e q (by intro z; exact absurd (show b ∈ ([] : List Addr) from z) (by simp)) (by simp)
      | some u =>
        rcases hO b with z | ⟨ob, xs, z⟩
        ·rw [q] at z; cases z
        ·have z2 := un.frzs b ob _ z
         obtain ⟨e1, _⟩ := hok b _ z
         obtain ⟨e2, _⟩ := hok' b _ z2
         rw [e] at e1; cases e1
         exact e2
 cases hk : K.lookup a with
 | some o =>
   -- the script is one of the module's own objects
   have e := KX a o hk
   rw [ha] at e
   cases e
   refine core (fun _ => none) (fun _ => .inl rfl) (.inr ⟨_, vs.toArray, _, hk, rfl, rfl, rfl, by rw [List.size_toArray, lenV]; exact hl, by simpa using rv⟩) (fun b u z => by have z' : (none : Option HO) = some u := z; cases z') (fun b z => absurd rfl z) fun z => absurd rfl z
 | none =>
   refine core (fun b => if b = a then some (.frz { cls := .type "list", data := .seq vs.toArray } (.lst (ns.map V.int))) else none) (fun b => ?_) (.inl (.inr ⟨{ cls := .type "list", data := .seq vs.toArray }, if_pos rfl⟩)) (fun b u z => ?_) (fun b z => ?_) fun _ => hk
   ·by_cases hb : b = a
    ·exact .inr ⟨_, _, if_pos hb⟩
    ·exact .inl (if_neg hb)
   ·by_cases hb : b = a
    ·have z' := (if_pos hb).symm.trans z
     cases z'
     subst hb
     exact ⟨ha, by rw [List.length_map]; exact hl, vs, _, rv, ha⟩
    ·have z' := (if_neg hb).symm.trans z
     cases z'
   ·by_cases hb : b = a
    ·exact hb
    ·exact absurd (if_neg hb) z
theorem b4t {l : PySem.W.OpenLaw} {n k : Nat} {q : Program} {loose : List Str} {XP : (Str → Option Value) → Heap → Prop} {YP : World → Heap → Prop} {d : DefRec} {K : Params → PySem.W.Frag} {CX : World → CXT} {sp : World → Sp} {x : Str}
  (hn : l.most = some n) (hn2 : n ≤ sizeLine) (hdf : d.params.defaults = []) (hr : Room k callerA)
  (hY : ∀ (w : World) (h : Heap), YP w h → (K w.params).In h)
  (F : ∀ (w : World) (mg : Str → Option Value) (fa : Addr) (h : Heap), (K w.params).In h → h.Ns mainGlobals mg → mg d.name = some (.ref fa) →
   ∃ fd : FuncData, (∀ (s : Shared) (u : Value), BindsTo s fd ⟨[u], []⟩ [(x, u)]) ∧
     ∀ base : Heap, (K w.params).In base → base.Ns mainGlobals mg → FnOk l.prog w (K w.params) mg base (CX w) k fa fd [x] (sp w))
  (hsp : ∀ (w : World) (H : Hp) (a : Addr) (ns : List Int), ns.length ≤ n → Only H → SqL (K w.params) H a (ns.map V.int) → sp w [.ref a] H (fun v _ => v = .bl true) fun _ _ _ => False)
  (hCX : ∀ (w : World) (H : Hp) (s : Shared) (e : Value) (s' : Shared), CX w [] H s (fun _ _ _ => False) e s' → False) :
  PySem.W.WalkO q loose XP YP l.row.toRowW d [] (fun f vs => PySem.call f vs) := by
 refine Att.attach_call hn hdf fun w s₀ s₁ mg mb fa o pm cd doc a vs ns G Y ho hd hcd hmg hobj hints hlen hg => ?_
 have KX := hY w _ Y
 obtain ⟨fd, hb, hF⟩ := F w mg fa _ KX G.T.g hmg
 exact b3r KX G.T.g G.T.b G.T.builtins G.T.nolimit hg hobj hints (Nat.le_trans hlen hn2) hr hF hb (fun H hO hS => hsp w H a ns hlen hO hS) fun H e s' => hCX w H s₁ e s'
noncomputable def a0p (s : Stmt) : Arguments := match s with
 | .FunctionDef _ a _ _ _ _ _ _ _ _ => a
 | _ => { posonlyargs := [], args := [], vararg := none, kwonlyargs := [], kw_defaults := [], kwarg := none, defaults := [] }
noncomputable def a0k (s : Stmt) : List Stmt := match s with
 | .FunctionDef _ _ b _ _ _ _ _ _ _ => b
 | _ => []
noncomputable def a0b (s : Stmt) : Scope := match s with
 | .FunctionDef _ _ _ _ _ _ sc _ _ _ => sc
 | _ => { kind := .function, names := [], isGenerator := false, isCoroutine := false }
noncomputable abbrev CX0 : CXT := fun _ _ _ _ _ _ => False
noncomputable abbrev E0 : XK := fun _ _ _ => False
theorem b8t {X : Cx} : b2F CX0 X E0 := fun _ _ _ _ _ _ _ h => h.elim
structure Fun (K : PySem.W.Frag) (x qual : Str) (st : Stmt) (f : Addr) (fd : FuncData) : Prop where
 ex : ∃ (oc : Value) (od : Option Addr) (kV doc pm : Value) (an : Option Addr) (cdv ct : Value) (osl : Array (Option Value)),
  fd = PySem.W.fnOf x qual (a0p st) (a0k st) (a0b st) .none kV doc pm an cdv ct ∧ K.lookup f = some ⟨oc, od, .func fd, osl⟩ ∧ PySem.W.codeIn K cdv qual = true
 kp : PySem.W.keepIn K (.ref f) = true
section
variable {P : Program} {w : World} {K : PySem.W.Frag} {mg : Str → Option Value} {base : Heap}
theorem Fun.ok {x qual : Str} {st : Stmt} {f : Addr} {fd : FuncData} {N ps : List Str} {k : Nat} {sp : Sp} (F : Fun K x qual st f fd) (S : FnScope N ps (a0b st)) (len : ∀ vs H Q E, sp vs H Q E → vs.length = ps.length)
  (hbody : ∀ (cdv : Value) (A : Around) (outer : List Env) (s : Shared) (H : Hp) (vs : List V) (Q : VK) (E : XK), Room k (A.deeper (envOfC qual (a0b st) s.heap.objs.size f cdv)) → sp vs H Q E →
   ∃ t, PSs (cxOf CX0 P w K mg base N qual (a0b st) f cdv A outer s H E).nox (a0k st) t ∧ t { nx := fun _ H' => Q .non H', rt := Q } (start N vs) H) : FnOk P w K mg base CX0 (k + 1) f fd ps sp := by
 obtain ⟨oc, od, kV, doc, pm, an, cdv, ct, osl, rfl, lk, hcd⟩ := F.ex
 refine b8F lk hcd S len fun A outer s H vs Q E hr hsp => ?_
 obtain ⟨t, h, q⟩ := hbody cdv A outer s H vs Q E hr hsp
 exact ⟨t, h.nox, q⟩
theorem Fun.binds {x qual : Str} {st : Stmt} {f : Addr} {fd : FuncData} {ps : List Str} (F : Fun K x qual st f fd)
  (h : ∀ (kV doc pm : Value) (an : Option Addr) (cdv ct : Value) (us : List Value), us.length = ps.length → bindArgs (PySem.W.fnOf x qual (a0p st) (a0k st) (a0b st) .none kV doc pm an cdv ct) ⟨us, []⟩ = pure (ps.zip us)) : a0Y K fd ps [] := by
 obtain ⟨oc, od, kV, doc, pm, an, cdv, ct, osl, rfl, lk, hcd⟩ := F.ex
 exact .all (h kV doc pm an cdv ct)
theorem a0G {x qual : Str} {st : Stmt} {f : Addr} {oc : Value} {od an : Option Addr} {osl : Array (Option Value)} {kV doc pm cdv ct : Value} (l : K.lookup f = some ⟨oc, od, .func (PySem.W.fnOf x qual (a0p st) (a0k st) (a0b st) .none kV doc pm an cdv ct), osl⟩)
  (c : PySem.W.codeIn K cdv qual = true) (k : PySem.W.keepIn K (.ref f) = true) : Fun K x qual st f (PySem.W.fnOf x qual (a0p st) (a0k st) (a0b st) .none kV doc pm an cdv ct) := ⟨⟨oc, od, kV, doc, pm, an, cdv, ct, osl, rfl, l, c⟩, k⟩
end
section
variable {X : Cx}
end
theorem ite2 {c A B : Prop} [Decidable c] (h1 : c → A) (h2 : ¬ c → B) : if c then A else B := by
 by_cases h : c
 ·rw [if_pos h]
  exact h1 h
 ·rw [if_neg h]
  exact h2 h
end L2
set_option maxHeartbeats 0
namespace L2
open PySem PySem.Spec PyProof.Rows
section
variable {κ : Type} [DecidableEq κ]
noncomputable def valV (kvs : List (κ × V)) (k : κ) : Option V := (kvs.find? fun kv => decide (kv.1 = k)).map (·.2)
noncomputable def putK (kvs : List (κ × V)) (k : κ) (v : V) : List (κ × V) :=
 if (kvs.any fun kv => decide (kv.1 = k)) = true then kvs.map (fun kv => if kv.1 = k then (kv.1, v) else kv) else kvs ++ [(k, v)]
noncomputable def a7M (kvs : List (κ × V)) (k : κ) : List (κ × V) := kvs.filter fun kv => decide (kv.1 ≠ k)
theorem a6d {p : κ × V} {r : List (κ × V)} {k : κ} (e : p.1 = k) : valV (p :: r) k = some p.2 := by simp [valV, List.find?_cons, e]
theorem a6e {p : κ × V} {r : List (κ × V)} {k : κ} (e : ¬ p.1 = k) : valV (p :: r) k = valV r k := by simp [valV, List.find?_cons, e]
theorem a6f (k : κ) : ∀ kvs : List (κ × V), (kvs.any fun kv => decide (kv.1 = k)) = (valV kvs k).isSome
 | [] => rfl
 | p :: r => by
   rw [List.any_cons]
   by_cases e : p.1 = k
   ·simp only [a6d e, decide_eq_true e, Bool.true_or, Option.isSome_some]
   ·rw [a6e e, decide_eq_false e, Bool.false_or]; exact a6f k r
theorem a4a (kvs : List (κ × V)) (k : κ) (v : V) : (putK kvs k v).length ≤ kvs.length + 1 := by
 unfold putK
 split
 ·rw [List.length_map]; lia
 ·rw [List.length_append, List.length_cons, List.length_nil]; lia
theorem b2Y {kvs : List (κ × V)} {k : κ} (v : V) (h : valV kvs k = none) : putK kvs k v = kvs ++ [(k, v)] := by
 unfold putK
 rw [a6f, h]
 exact if_neg (by decide)
theorem RelO.isSome_eq {o : Option V} {u : Option Value} (r : RelO o u) : o.isSome = u.isSome := by
 cases o with
 | none => cases u with
   | none => rfl
   | some _ => exact (show False from r).elim
 | some _ => cases u with
   | none => exact (show False from r).elim
   | some _ => rfl
theorem RelO.getD {o : Option V} {u : Option Value} {d : V} {d' : Value} (r : RelO o u) (rd : RelV d d') : RelV (o.getD d) (u.getD d') := by
 cases o with
 | none => cases u with
   | none => exact rd
   | some _ => exact (show False from r).elim
 | some _ => cases u with
   | none => exact (show False from r).elim
   | some _ => exact r
theorem KV.val {kvs : List (κ × V)} {vs : List (κ × Value)} (r : KV kvs vs) (k : κ) : RelO (valV kvs k) (valueAt vs k) := by
 unfold KV at r
 induction r with
 | nil => exact True.intro
 | @cons p q ps qs h t ih =>
   obtain ⟨h1, h2⟩ := h
   by_cases e : p.1 = k
   ·have e' : q.1 = k := h1.symm.trans e
    have b : valueAt (q :: qs) k = some q.2 := by simp [valueAt, List.find?_cons, e']
    rw [a6d e, b]; exact h2
   ·have e' : ¬ q.1 = k := fun z => e (h1.trans z)
    have b : valueAt (q :: qs) k = valueAt qs k := by simp [valueAt, List.find?_cons, e']
    rw [a6e e, b]; exact ih
theorem KV.any {kvs : List (κ × V)} {vs : List (κ × Value)} (r : KV kvs vs) (k : κ) : (kvs.any fun kv => decide (kv.1 = k)) = vs.any fun kv => decide (kv.1 = k) := by
 unfold KV at r
 induction r with
 | nil => rfl
 | cons h t ih => rw [List.any_cons, List.any_cons, ih, h.1]
theorem KV.repl {kvs : List (κ × V)} {vs : List (κ × Value)} (r : KV kvs vs) (k : κ) {y : V} {u : Value} (ry : RelV y u) :
  KV (kvs.map fun kv => if kv.1 = k then (kv.1, y) else kv) (vs.map fun kv => if kv.1 = k then (kv.1, u) else kv) := by
 unfold KV at r ⊢
 induction r with
 | nil => exact .nil
 | @cons p q ps qs h t ih =>
   rw [List.map_cons, List.map_cons]
   refine .cons ?_ ih
   obtain ⟨h1, h2⟩ := h
   by_cases e : p.1 = k
   ·rw [if_pos e, if_pos (h1.symm.trans e)]; exact ⟨h1, ry⟩
   ·rw [if_neg e, if_neg (fun z => e (h1.trans z))]; exact ⟨h1, h2⟩
theorem KV.put {kvs : List (κ × V)} {vs : List (κ × Value)} (r : KV kvs vs) (k : κ) {y : V} {u : Value} (ry : RelV y u) : KV (putK kvs k y) (stored vs k u) := by
 unfold putK stored
 rw [r.any k]
 by_cases e : (vs.any fun kv => decide (kv.1 = k)) = true
 ·rw [if_pos e, if_pos e]; exact r.repl k ry
 ·rw [if_neg e, if_neg e]; exact Paired.snoc r ⟨rfl, ry⟩
theorem KV.drop {kvs : List (κ × V)} {vs : List (κ × Value)} (r : KV kvs vs) (k : κ) : KV (a7M kvs k) (without vs k) := by
 unfold KV at r ⊢
 unfold a7M without
 induction r with
 | nil => exact .nil
 | @cons p q ps qs h t ih =>
   obtain ⟨h1, h2⟩ := h
   rw [List.filter_cons, List.filter_cons]
   by_cases e : p.1 = k
   ·have a : ¬ decide (p.1 ≠ k) = true := by simp [e]
    have b : ¬ decide (q.1 ≠ k) = true := by simp [h1.symm.trans e]
    rw [if_neg a, if_neg b]; exact ih
   ·have e' : ¬ q.1 = k := fun z => e (h1.trans z)
    have a : decide (p.1 ≠ k) = true := by simp [e]
    have b : decide (q.1 ≠ k) = true := by simp [e']
    rw [if_pos a, if_pos b]; exact .cons ⟨h1, h2⟩ ih
theorem KV.keys {kvs : List (κ × V)} {vs : List (κ × Value)} (r : KV kvs vs) : kvs.map (·.1) = vs.map (·.1) := by
 unfold KV at r
 induction r with
 | nil => rfl
 | cons h t ih => rw [List.map_cons, List.map_cons, ih, h.1]
theorem KV.length {kvs : List (κ × V)} {vs : List (κ × Value)} (r : KV kvs vs) : kvs.length = vs.length := Paired.length r
theorem b3G (kvs : List (κ × V)) (k : κ) : (a7M kvs k).length ≤ kvs.length := List.length_filter_le _ _
end
theorem a8F {P : Program} {w : World} {k : Key} {u : Value} (r : RelV (kV k) u) : (a0F P w).is k u = true := by
 cases k with
 | inl i => obtain ⟨t, e⟩ := (show ∃ t, u = Value.int i t from r); subst e; exact a8A P w i t
 | inr x => obtain ⟨t, e⟩ := (show ∃ t, u = Value.str x t from r); subst e; exact a8z P w x t
theorem a7y {P : Program} {w : World} : ∀ {ks : List Key} {us : List Value}, Vals (ks.map kV) us → ItemsAre (a0F P w) ks us
 | [], _, r => by rw [List.map_nil] at r; cases r; exact .nil
 | k :: ks, _, r => by
   rw [List.map_cons] at r
   cases r with
   | cons h t => exact .cons (a8F h) (a7y t)
noncomputable abbrev KT (H : Hp) : List (List Key × V) → List (List Key × Addr × Value) → Prop := Paired fun p q => p.1 = q.1 ∧ H q.2.1 = some (.tup (p.1.map kV)) ∧ RelV p.2 q.2.2
theorem KT.val {H : Hp} {kvs : List (List Key × V)} {xs : List (List Key × Addr × Value)} (r : KT H kvs xs) (k : List Key) : RelO (valV kvs k) ((atKey xs k).map (·.2)) := by
 induction r with
 | nil => exact True.intro
 | @cons p q ps qs h t ih =>
   obtain ⟨h1, _, h2⟩ := h
   by_cases e : p.1 = k
   ·have e' : q.1 = k := h1.symm.trans e
    have b : atKey (q :: qs) k = some q.2 := by simp [atKey, List.find?_cons, e']
    rw [a6d e, b]; exact h2
   ·have e' : ¬ q.1 = k := fun z => e (h1.trans z)
    have b : atKey (q :: qs) k = atKey qs k := by simp [atKey, List.find?_cons, e']
    rw [a6e e, b]; exact ih
theorem KT.repl {H : Hp} {kvs : List (List Key × V)} {xs : List (List Key × Addr × Value)} (r : KT H kvs xs) (k : List Key) {y : V} {u : Value} (ry : RelV y u) :
  KT H (kvs.map fun kv => if kv.1 = k then (kv.1, y) else kv) (xs.map (putAt k u)) := by
 induction r with
 | nil => exact .nil
 | @cons p q ps qs h t ih =>
   rw [List.map_cons, List.map_cons]
   refine .cons ?_ ih
   obtain ⟨h1, h2, h3⟩ := h
   unfold putAt
   by_cases e : p.1 = k
   ·rw [if_pos e, if_pos (h1.symm.trans e)]; exact ⟨h1, h2, ry⟩
   ·rw [if_neg e, if_neg (fun z => e (h1.trans z))]; exact ⟨h1, h2, h3⟩
theorem KT.put {H : Hp} {kvs : List (List Key × V)} {xs : List (List Key × Addr × Value)} (r : KT H kvs xs) (k : List Key) {b : Addr} {y : V} {u : Value} (hb : H b = some (.tup (k.map kV))) (ry : RelV y u) :
  KT H (putK kvs k y) (storedH xs k b u) := by
 have e : (kvs.any fun kv => decide (kv.1 = k)) = (atKey xs k).isSome := by
  rw [a6f, (r.val k).isSome_eq, Option.isSome_map]
 unfold putK storedH
 rw [e]
 by_cases q : (atKey xs k).isSome = true
 ·rw [if_pos q, if_pos q]; exact r.repl k ry
 ·rw [if_neg q, if_neg q]; exact Paired.snoc r ⟨rfl, hb, ry⟩
theorem KT.keeps {H H' : Hp} {kvs : List (List Key × V)} {xs : List (List Key × Addr × Value)} (r : KT H kvs xs) (ht : ∀ b ys, H b = some (.tup ys) → H' b = some (.tup ys)) : KT H' kvs xs :=
 Paired.mapP r fun _ _ z => ⟨z.1, ht _ _ z.2.1, z.2.2⟩
section
variable {P : Program} {w : World} {H : Hp} {h : Heap} {a : Addr}
theorem b6A {u : HO} (ok : HOk P w H h) (e : Rd H a u) : a0Q P w H h a u := e.ok ok
theorem b0y {kvs : List (Key × V)} (ok : HOk P w H h) (e : Rd H a (.dK kvs)) : kvs.length ≤ sizeLine ∧ (a == sysModules) = false ∧ ∃ vs, KV kvs vs ∧ h.DictOf (a0F P w) a vs :=
 show a0Q P w H h a (.dK kvs) from b6A ok e
theorem b5I {kvs : List (Key × V)} (ok : HOk P w H h) (e : H a = some (.dK kvs)) : kvs.length ≤ sizeLine ∧ (a == sysModules) = false ∧ ∃ vs, KV kvs vs ∧ h.DictOf (a0F P w) a vs := b0y ok (.inl e)
theorem a5R {ks : List Key} (ok : HOk P w H h) (e : H a = some (.tup (ks.map kV))) : (tupleKind (a0F P w)).is h ks a := by
 obtain ⟨_, its, r, o, h1, h2, _, n, h3⟩ := (show a0Q P w H h a (.tup (ks.map kV)) from ok a _ e)
 exact ⟨o, its.toArray, n, h1, h2, h3, by simpa using a7y r⟩
theorem b0x {kvs : List (List Key × V)} (ok : HOk P w H h) (e : Rd H a (.dT kvs)) : kvs.length ≤ sizeLine ∧ (a == sysModules) = false ∧
  ∃ xs, KT H kvs xs ∧ h.DictOfH (tupleKind (a0F P w)) a xs := by
 obtain ⟨z, y, xs, r, o, es, ep, h1, h2, h3, h4, h5⟩ := (show a0Q P w H h a (.dT kvs) from b6A ok e)
 refine ⟨z, y, xs, r, o, es, ep, h1, h2, h3, h4, fun x hx => ?_, h5⟩
 have all : ∀ {l : List (List Key × V)} {m : List (List Key × Addr × Value)}, KT H l m → ∀ x ∈ m, (tupleKind (a0F P w)).is h x.1 x.2.1 := by
  intro l m q
  induction q with
  | nil => intro x hx; exact nomatch hx
  | @cons p q ps qs hq t ih =>
    intro x hx
    rcases List.mem_cons.mp hx with e | hx
    ·subst e
     exact a5R ok (by rw [← hq.1]; exact hq.2.1)
    ·exact ih x hx
 exact all r x hx
theorem b7H {kvs : List (List Key × V)} (ok : HOk P w H h) (e : H a = some (.dT kvs)) : kvs.length ≤ sizeLine ∧ (a == sysModules) = false ∧
  ∃ xs, KT H kvs xs ∧ h.DictOfH (tupleKind (a0F P w)) a xs := b0x ok (.inl e)
end
noncomputable def DGet (H : Hp) (a : Addr) (y : V) (r : Option V) : Prop :=
 (∃ kvs k, Rd H a (.dK kvs) ∧ y = kV k ∧ r = valV kvs k) ∨ ∃ kvs k b, Rd H a (.dT kvs) ∧ y = .ref b ∧ H b = some (.tup (k.map kV)) ∧ r = valV kvs k
noncomputable def DPut (H : Hp) (a : Addr) (y v : V) (H' : Hp) : Prop :=
 (∃ kvs k, H a = some (.dK kvs) ∧ y = kV k ∧ kvs.length < sizeLine ∧ H' = upd H a (.dK (putK kvs k v))) ∨
 ∃ kvs k b, H a = some (.dT kvs) ∧ y = .ref b ∧ H b = some (.tup (k.map kV)) ∧ kvs.length < sizeLine ∧ H' = upd H a (.dT (putK kvs k v))
theorem DGet.k {H : Hp} {a : Addr} {kvs : List (Key × V)} {k : Key} (e : H a = some (.dK kvs)) : DGet H a (kV k) (valV kvs k) := .inl ⟨kvs, k, .inl e, rfl, rfl⟩
theorem DGet.t {H : Hp} {a b : Addr} {kvs : List (List Key × V)} {k : List Key} (e : H a = some (.dT kvs)) (eb : H b = some (.tup (k.map kV))) : DGet H a (.ref b) (valV kvs k) := .inr ⟨kvs, k, b, .inl e, rfl, eb, rfl⟩
theorem DPut.k {H : Hp} {a : Addr} {kvs : List (Key × V)} {k : Key} {v : V} (e : H a = some (.dK kvs)) (hl : kvs.length < sizeLine) : DPut H a (kV k) v (upd H a (.dK (putK kvs k v))) := .inl ⟨kvs, k, e, rfl, hl, rfl⟩
theorem DPut.t {H : Hp} {a b : Addr} {kvs : List (List Key × V)} {k : List Key} {v : V} (e : H a = some (.dT kvs)) (eb : H b = some (.tup (k.map kV))) (hl : kvs.length < sizeLine) :
  DPut H a (.ref b) v (upd H a (.dT (putK kvs k v))) := .inr ⟨kvs, k, b, e, rfl, eb, hl, rfl⟩
section
variable {X : Cx} {pins : List (Addr × Obj)} {σ : St} {H : Hp} {s : Shared} {a : Addr} {y v : V} {u r : Value} {o : Option V} {A : Around} {E : Value → Shared → Prop}
theorem Inv.big (I : Inv X pins σ H s) : sysModules < s.heap.objs.size := by
 have h : mainGlobals < s.heap.objs.size := (I.mod.glob.keeps I.bk).lt
 exact Nat.lt_trans (by decide) h
theorem b2l {Q : Value → Shared → Prop} (hu : A.units + 1 < cLine) (I : Inv X pins σ H s) (g : DGet H a y (some v)) (ry : RelV y u) (h : ∀ w' s', Inv X pins σ H s' → RelV v w' → Q w' s') :
  wpAny (model X.prog X.w) A (getItem (.ref a) u) Q E s := by
 rcases g with ⟨kvs, k, e, ey, l⟩ | ⟨kvs, k, b, e, ey, eb, l⟩
 ·subst ey
  obtain ⟨z, hd, vs, rel, dd⟩ := b0y I.hok e
  obtain ⟨w', hw, rw'⟩ := RelO.some_of (v := v) (o := valueAt vs k) (by rw [l]; exact rel.val k)
  exact wpAny_getItem_of (a8F ry) dd.mapOf hw (h w' _ (I.tok _) rw')
 ·subst ey
  cases (show u = Value.ref b from ry)
  obtain ⟨z, hd, xs, rel, dd⟩ := b0x I.hok e
  obtain ⟨w', hw, rw'⟩ := RelO.some_of (v := v) (o := (atKey xs k).map (·.2)) (by rw [l]; exact rel.val k)
  obtain ⟨p, hp, hp2⟩ := Option.map_eq_some_iff.mp hw
  refine wpAny_getItem_heap (tupleKind_room_in1 hu) (a5R I.hok eb) dd hp ?_
  rw [hp2]
  exact h w' _ (I.tok _) rw'
theorem b5M {Q : Value → Shared → Prop} (hu : A.units + 1 < cLine) (I : Inv X pins σ H s) (g : DGet H a y o) (ry : RelV y u) (h : ∀ s', Inv X pins σ H s' → Q (.bool (!o.isSome)) s') :
  wpAny (model X.prog X.w) A (compareOp .NotIn u (.ref a)) Q E s := by
 rcases g with ⟨kvs, k, e, ey, l⟩ | ⟨kvs, k, b, e, ey, eb, l⟩
 ·subst ey
  obtain ⟨z, hd, vs, rel, dd⟩ := b0y I.hok e
  refine wpAny_notIn_of (a8F ry) hd dd.mapOf ?_
  rw [← (rel.val k).isSome_eq, ← l]
  exact h _ (I.tok _)
 ·subst ey
  cases (show u = Value.ref b from ry)
  obtain ⟨z, hd, xs, rel, dd⟩ := b0x I.hok e
  refine wpAny_notIn_heap (tupleKind_room_in1 hu) (a5R I.hok eb) hd dd ?_
  have q := (rel.val k).isSome_eq
  rw [Option.isSome_map] at q
  rw [← q, ← l]
  exact h _ (I.tok _)
theorem a5p {h' : Heap} {t' : Nat} {ob : HO} (I : Inv X pins σ H s) (mu : Mut (H a)) (hs : Heap.SameBut a s.heap h') (he : ∃ q, h'.get? a = some q) (new : a0Q X.prog X.w (upd H a ob) h' a ob) :
  Inv X pins σ (upd H a ob) { s with heap := h', toks := t' } :=
 I.write (x := a) (e := a) mu (.inl rfl) (fun b q hb z => (hs.2 b hb).trans z) he new
theorem b2h {P : Program} {w : World} {H' : Hp} {h' : Heap} {kvs : List (Key × V)} {vs : List (Key × Value)} (z : kvs.length ≤ sizeLine) (hd : (a == sysModules) = false) (rel : KV kvs vs) (dd : h'.DictOf (a0F P w) a vs) :
  a0Q P w H' h' a (.dK kvs) := ⟨z, hd, vs, rel, dd⟩
theorem b2k {H' : Hp} {Q : Unit → Shared → Prop} (hu : A.units + 1 < cLine) (I : Inv X pins σ H s) (g : DPut H a y v H') (ry : RelV y u) (rv : RelV v r) (h : ∀ s', Inv X pins σ H' s' → Q () s') :
  wpAny (model X.prog X.w) A (setItem (.ref a) u r) Q E s := by
 rcases g with ⟨kvs, k, e, ey, l, eH⟩ | ⟨kvs, k, b, e, ey, eb, l, eH⟩
 ·subst ey eH
  obtain ⟨z, hd, vs, rel, dd⟩ := b5I I.hok e
  have hz : vs.length ≤ sizeLine := by rw [← rel.length]; exact z
  have hl : (putK kvs k v).length ≤ sizeLine := by have := a4a kvs k v; lia
  refine wpAny_setItem_pairs (hsz := hz) (a8F ry) dd fun h' dd' hs => h _ ?_
  have he : ∃ q, h'.get? a = some q := let ⟨q, _, _, hq, _⟩ := dd'; ⟨q, hq⟩
  exact a5p I (by rw [e]; exact True.intro) hs he (b2h hl hd (rel.put k rv) dd')
 ·subst ey eH
  cases (show u = Value.ref b from ry)
  obtain ⟨z, hd, xs, rel, dd⟩ := b7H I.hok e
  have hz : xs.length ≤ sizeLine := by rw [← Paired.length rel]; exact z
  have hl : (putK kvs k v).length ≤ sizeLine := by have := a4a kvs k v; lia
  refine wpAny_setItem_heap (hsz := hz) (tupleKind_room_in1 hu) (a5R I.hok eb) dd fun h' dd' hs => h _ ?_
  obtain ⟨q, es, ep, hq, h2, h3, h4, _, h5⟩ := dd'
  refine a5p I (by rw [e]; exact True.intro) hs ⟨q, hq⟩ ⟨hl, hd, _, (rel.put k eb rv).keeps fun c ys ec => ?_, q, es, ep, hq, h2, h3, h4, h5⟩
  rw [a0n (b5p ec e (fun z => nomatch z))]
  exact ec
end
section
variable {X : Cx} {pins : List (Addr × Obj)} {σ : St} {H : Hp} {s : Shared} {a : Addr} {kvs : List (Key × V)} {k : Key} {u : Value} {A : Around} {E : Value → Shared → Prop}
theorem b8I {v : V} {more : List Value} {Q : Value → Shared → Prop} (I : Inv X pins σ H s) (e : H a = some (.dK kvs)) (ry : RelV (kV k) u) (l : valV kvs k = some v) (hm : more = [] ∨ ∃ x, more = [x])
  (h : ∀ w' s', Inv X pins σ (upd H a (.dK (a7M kvs k))) s' → RelV v w' → Q w' s') : wpAny (model X.prog X.w) A (call (.builtin "dict.pop") (.ref a :: u :: more)) Q E s := by
 obtain ⟨z, hd, vs, rel, dd⟩ := b5I I.hok e
 obtain ⟨w', hw, rw'⟩ := RelO.some_of (v := v) (o := valueAt vs k) (by rw [← l]; exact rel.val k)
 have hp : (keyPart u).isSome = true := by
  cases k with
  | inl i => obtain ⟨t, q⟩ := (show ∃ t, u = Value.int i t from ry); subst q; rfl
  | inr x => obtain ⟨t, q⟩ := (show ∃ t, u = Value.str x t from ry); subst q; rfl
 have ha : argsOk "dict.pop" ⟨.ref a :: u :: more, []⟩ := by
  rcases hm with q | ⟨x, q⟩
  ·subst q; exact PySem.F.args_dict_pop_2 _ _
  ·subst q; exact PySem.F.args_dict_pop_3 _ _ _
 refine call_meetsIn PySem.F.slot_dict_pop dd.typeIs PySem.F.entry_dict_pop ha (meets_dict_pop_there (a0F X.prog X.w) a (a8F ry) more hm hp)
  ⟨vs, w', dd, by rw [← rel.length]; exact z, hw, fun h' dd' hs => h w' _ ?_ rw'⟩
 have he : ∃ q, h'.get? a = some q := let ⟨q, _, _, hq, _⟩ := dd'; ⟨q, hq⟩
 exact a5p I (by rw [e]; exact True.intro) hs he (b2h (Nat.le_trans (b3G kvs k) z) hd (rel.drop k) dd')
end
noncomputable def NoSl (i : Expr) : Prop := ∀ ov iv, subscripted i false ov iv = operate [ov, iv] (getItem ov iv)
theorem b4B {prog : Program} {w : World} {A : Around} {E : Value → Shared → Prop} {s : Shared} {env : Env} {value slice : Expr} {pos : Pos} {T id : String} {Q : Value → Shared → Prop}
  (hl : typeLookup (.type T) "__getitem__" = pure (some (.builtin id))) (hs : NoSl slice)
  (h : wpAny (model prog w) A (eval value env) (fun o s₁ => wpAny (model prog w) A (eval slice env) (fun i s₂ => s₂.TypeIs o T ∧ wpAny (model prog w) A (getItem o i) Q E s₂) E s₁) E s) :
  wpAny (model prog w) A (eval (.Subscript value slice pos) env) Q E s := by
 refine Subscript_ (wpAny_mono h (fun o s₁ h₁ => wpAny_mono h₁ (fun i s₂ h₂ => ?_) fun _ _ x => x) fun _ _ x => x)
 obtain ⟨hT, h₂⟩ := h₂
 unfold subscriptTail
 refine wpAny_bind ?_
 rw [getitemInPython_of_ne hT.not_modules]
 refine wpAny_bind (wpAny_specialOf hT hl ?_)
 have fin : wpAny (model prog w) A (subscripted slice false o i) (fun r s₃ => wpAny (model prog w) A (letTemporaryGo value o r >>= fun _ => pure r) Q E s₃) E s₂ := by
  rw [hs o i]
  exact wpAny_operating (wpAny_mono h₂ (fun r s₃ h₃ => wpAny_bind (wpAny_letTemporaryGo (wpAny_pure h₃))) fun _ _ x => x)
 first
  | exact wpAny_pure (wpAny_bind fin)
  | exact wpAny_bind (wpAny_pure (wpAny_bind fin))
  | exact wpAny_bind fin
theorem a8O {X : Cx} {pins : List (Addr × Obj)} {σ : St} {H : Hp} {s : Shared} {a : Addr} {y : V} {o : Option V} (I : Inv X pins σ H s) (g : DGet H a y o) : s.TypeIs (.ref a) "dict" := by
 rcases g with ⟨kvs, k, e, _, _⟩ | ⟨kvs, k, b, e, _, _, _⟩
 ·obtain ⟨_, _, vs, _, dd⟩ := b0y I.hok e
  exact dd.typeIs
 ·obtain ⟨_, _, xs, _, dd⟩ := b0x I.hok e
  exact dd.typeIs
noncomputable def b8c (td ty : TE) : TE := fun σ H Q => td σ H fun x H1 => ty σ H1 fun y H2 => ∃ a v, x = .ref a ∧ DGet H2 a y (some v) ∧ Q v H2
noncomputable def b8i (td ty tv : TE) : TS := fun D σ H => tv σ H fun v H1 => td σ H1 fun x H2 => ty σ H2 fun y H3 => ∃ a H4, x = .ref a ∧ DPut H3 a y v H4 ∧ D.nx σ H4
section
variable {X : Cx} {o i e value : Expr} {pos pos' tpos : Pos} {td ty tv : TE}
theorem b1o (hu : X.A.units + 1 < cLine) (ho : PE X o td) (hi : PE X i ty) (hs : NoSl i) : PE X (.Subscript o i pos) (b8c td ty) := by
 intro pins s σ H Q I h
 refine b4B PySem.F.slot_dict_getitem.lookup hs (thn (ho pins s σ H _ I h) fun u s1 ⟨x, H1, I1, rx, q1⟩ => thn (hi pins s1 σ H1 _ I1 q1) fun iv s2 ⟨y, H2, I2, ry, a, v, ex, g, q2⟩ => ?_)
 subst ex
 obtain rfl : u = Value.ref a := rx
 exact ⟨a8O I2 g, b2l hu I2 g ry fun w' s3 I3 rw' => ⟨v, H2, I3, rw', q2⟩⟩
theorem b1i (hu : X.A.units + 1 < cLine) (ho : PE X o td) (hi : PE X i ty) (hv : PE X value tv) (hs : swapsWith value (some (.Subscript o i pos')) pos.line X.env = pure false) :
  PS X (.Assign [.Subscript o i pos'] value pos) (b8i td ty tv) := by
 intro pins s σ H D I h
 refine wpAny_Assign_Subscript (thn (hv pins s σ H _ I h) fun r s1 ⟨v, H1, I1, rv, q1⟩ => thn (ho pins s1 σ H1 _ I1 q1) fun u s2 ⟨x, H2, I2, rx, q2⟩ => thn (hi pins s2 σ H2 _ I2 q2) fun iv s3 ⟨y, H3, I3, ry, a, H4, ex, g, q3⟩ => ?_) hs
 subst ex
 obtain rfl : u = Value.ref a := rx
 exact b2k hu I3 g ry rv fun s4 I4 => ⟨σ, H4, I4, q3⟩
end
theorem a9I {P : Program} {w : World} {H : Hp} (h : Heap) (hb : sysModules < h.objs.size) : a0Q P w H (h.push { cls := .type "dict", data := .dict #[] }) h.objs.size (.dK []) :=
 ⟨Nat.zero_le _, beq_eq_false_iff_ne.mpr (Ne.symm (Nat.ne_of_lt hb)), [], .nil, Heap.DictOf.new h⟩
theorem a9H {P : Program} {w : World} {H : Hp} (h : Heap) (hb : sysModules < h.objs.size) : a0Q P w H (h.push { cls := .type "dict", data := .dict #[] }) h.objs.size (.dT []) :=
 ⟨Nat.zero_le _, beq_eq_false_iff_ne.mpr (Ne.symm (Nat.ne_of_lt hb)), [], .nil, _, #[], 0, Heap.get?_push_size _ rfl, ⟨rfl, rfl, rfl⟩, rfl, rfl, List.nodup_nil⟩
noncomputable def b6s : TE := fun _ H Q => ∀ p, H p = none → Q (.ref p) (upd H p (.dK []))
noncomputable def b6r : TE := fun _ H Q => ∀ p, H p = none → Q (.ref p) (upd H p (.dT []))
section
variable {X : Cx} {pos : Pos}
theorem b3f : PE X (.Dict [] [] pos) b6s := fun pins s σ H Q I h =>
 wpAny_Dict_empty ⟨.ref s.heap.objs.size, _, I.laid (a := s.heap.objs.size) (o := .dK []) (t' := s.toks) (fun _ _ q => Heap.get?_push_of_some _ q) (Nat.le_refl _) (a9I s.heap I.big), rfl, h _ (I.hok.fresh (Nat.le_refl _))⟩
theorem b3e : PE X (.Dict [] [] pos) b6r := fun pins s σ H Q I h =>
 wpAny_Dict_empty ⟨.ref s.heap.objs.size, _, I.laid (a := s.heap.objs.size) (o := .dT []) (t' := s.toks) (fun _ _ q => Heap.get?_push_of_some _ q) (Nat.le_refl _) (a9H s.heap I.big), rfl, h _ (I.hok.fresh (Nat.le_refl _))⟩
end
noncomputable abbrev VV : List (V × V) → List (Value × Value) → Prop := Paired fun p q => RelV p.1 q.1 ∧ RelV p.2 q.2
noncomputable def a9v (kvs more : List (Key × V)) : List (Key × V) := more.foldl (fun acc kv => putK acc kv.1 kv.2) kvs
theorem KV.merge : ∀ {more : List (Key × V)} {rs : List (Key × Value)} {kvs : List (Key × V)} {vs : List (Key × Value)}, KV more rs → KV kvs vs → KV (a9v kvs more) (merged vs rs) := by
 intro more rs kvs vs r
 unfold KV at r
 induction r generalizing kvs vs with
 | nil => intro q; exact q
 | @cons p q ps qs h t ih =>
   intro r0
   have e : KV (putK kvs p.1 p.2) (stored vs q.1 q.2) := by
    have := r0.put p.1 h.2
    rw [← h.1]; exact this
   exact ih e
theorem a6a {P : Program} {w : World} : ∀ {kvs : List (Key × V)} {ws : List (Value × Value)}, VV (kvs.map fun kv => (kV kv.1, kv.2)) ws → ∃ rs, Carries (a0F P w) ws rs ∧ KV kvs rs
 | [], _, r => by rw [List.map_nil] at r; cases r; exact ⟨[], True.intro, .nil⟩
 | p :: kvs, _, r => by
   rw [List.map_cons] at r
   cases r with
   | @cons a b as bs h t =>
     obtain ⟨rs, c, q⟩ := a6a (P := P) (w := w) t
     obtain ⟨b1, b2⟩ := b
     exact ⟨(p.1, b2) :: rs, ⟨a8F h.1, rfl, c⟩, .cons ⟨rfl, h.2⟩ q⟩
structure M1 (X : Cx) (o : Expr) (m : Str) (apos : Pos) (e : Expr) (cpos : Pos) : Prop where
 base : attributeBase o m X.env (eval o X.env) = eval o X.env
 few : ((backTo cpos (starEach [e] X.env)).all (fun x => !x.1) && (backToKw cpos (keywordEach [] X.env)).all (fun x => x.1.isSome)
  && decide (([e] : List Expr).length + ([] : List Keyword).length + (if ([] : List Keyword).isEmpty then 0 else 1) < 30)) = true
 line : (apos.endLine == cpos.line) = true
 trees : backTo cpos (starEach [e] X.env) = [(false, eval e X.env)]
structure M2 (X : Cx) (o : Expr) (m : Str) (apos : Pos) (e f : Expr) (cpos : Pos) : Prop where
 base : attributeBase o m X.env (eval o X.env) = eval o X.env
 few : ((backTo cpos (starEach [e, f] X.env)).all (fun x => !x.1) && (backToKw cpos (keywordEach [] X.env)).all (fun x => x.1.isSome)
  && decide (([e, f] : List Expr).length + ([] : List Keyword).length + (if ([] : List Keyword).isEmpty then 0 else 1) < 30)) = true
 line : (apos.endLine == cpos.line) = true
 trees : backTo cpos (starEach [e, f] X.env) = [(false, eval e X.env), (false, eval f X.env)]
noncomputable def IsD (H : Hp) (a : Addr) : Prop := (∃ kvs, Rd H a (.dK kvs)) ∨ ∃ kvs, Rd H a (.dT kvs)
theorem b1Q {X : Cx} {pins : List (Addr × Obj)} {σ : St} {H : Hp} {s : Shared} {a : Addr} (I : Inv X pins σ H s) (d : IsD H a) :
  s.TypeIs (.ref a) "dict" ∧ (∀ b, Value.ref a = .ref b → ∃ ob, s.heap.get? b = some ob ∧ ob.dict = none) ∧ (a == sysModules) = false := by
 rcases d with ⟨kvs, e⟩ | ⟨kvs, e⟩
 ·obtain ⟨_, hd, vs, _, dd⟩ := b0y I.hok e
  refine ⟨dd.typeIs, fun b q => ?_, hd⟩
  cases q
  obtain ⟨ob, _, _, h1, h2, _⟩ := dd
  exact ⟨ob, h1, h2.2.1⟩
 ·obtain ⟨_, hd, xs, _, dd⟩ := b0x I.hok e
  refine ⟨dd.typeIs, fun b q => ?_, hd⟩
  cases q
  obtain ⟨ob, _, _, h1, h2, _⟩ := dd
  exact ⟨ob, h1, h2.2.1⟩
section
variable {X : Cx} {pins : List (Addr × Obj)} {σ : St} {H : Hp} {s : Shared} {a : Addr} {y d : V} {u r : Value} {o : Option V} {A : Around} {E : Value → Shared → Prop}
theorem b7L {Q : Value → Shared → Prop} (hu : A.units + 1 < cLine) (I : Inv X pins σ H s) (g : DGet H a y o) (ry : RelV y u) (rd : RelV d r) (h : ∀ w' s', Inv X pins σ H s' → RelV (o.getD d) w' → Q w' s') :
  wpAny (model X.prog X.w) A (call (.builtin "dict.get") [.ref a, u, r]) Q E s := by
 rcases g with ⟨kvs, k, e, ey, l⟩ | ⟨kvs, k, b, e, ey, eb, l⟩
 ·subst ey
  obtain ⟨z, hd, vs, rel, dd⟩ := b0y I.hok e
  refine call_meetsIn PySem.F.slot_dict_get dd.typeIs PySem.F.entry_dict_get (PySem.F.args_dict_get_3 _ _ _) (meets_dict_get_default (a0F X.prog X.w) a (a8F ry) hd r) ⟨_, dd.mapOf, h _ _ (I.tok _) ?_⟩
  rw [l]
  exact (rel.val k).getD rd
 ·subst ey
  cases (show u = Value.ref b from ry)
  obtain ⟨z, hd, xs, rel, dd⟩ := b0x I.hok e
  refine call_meetsIn PySem.F.slot_dict_get dd.typeIs PySem.F.entry_dict_get (PySem.F.args_dict_get_3 _ _ _) (meetsH_dict_get_default (tupleKind (a0F X.prog X.w)) a b hd r) ⟨tupleKind_room_in1 hu, k, xs, a5R I.hok eb, dd, h _ _ (I.tok _) ?_⟩
  rw [l]
  exact (rel.val k).getD rd
end
noncomputable def b6t (td ty tx : TE) : TE := fun σ H Q => td σ H fun x H1 => ∃ a, x = .ref a ∧ IsD H1 a ∧ ty σ H1 fun y H2 => tx σ H2 fun z H3 => ∃ o, DGet H3 a y o ∧ Q (o.getD z) H3
noncomputable def b6q (td ty : TE) : TE := fun σ H Q => td σ H fun x H1 => ∃ a, x = .ref a ∧ IsD H1 a ∧ ty σ H1 fun y H2 => ∃ kvs k v, H2 a = some (.dK kvs) ∧ y = kV k ∧ valV kvs k = some v ∧ Q v (upd H2 a (.dK (a7M kvs k)))
section
variable {X : Cx} {o e f : Expr} {apos cpos : Pos} {td ty tx : TE}
theorem a9n (hu : X.A.units + 1 < cLine) (ho : PE X o td) (he : PE X e ty) (hf : PE X f tx) (m : M2 X o "get" apos e f cpos) : PE X (.Call (.Attribute o "get" apos) [e, f] [] cpos) (b6t td ty tx) := by
 intro pins s σ H Q I h
 refine wpAny_Call_method m.base m.few m.line PySem.F.plainAttrs_dict PySem.F.slot_dict_get PySem.F.type_dict_get (thn (ho pins s σ H _ I h) fun u s1 ⟨x, H1, I1, rx, a, ex, d, q1⟩ => ?_)
 subst ex
 obtain rfl : u = Value.ref a := rx
 obtain ⟨t1, t2, _⟩ := b1Q I1 d
 refine ⟨t1, t2, ?_⟩
 rw [m.trees]
 refine Calls.callWith_builtin rfl (Calls.evalArgs_plain (Calls.spliced_cons (thn (he pins s1 σ H1 _ I1 q1) fun iv s2 ⟨y, H2, I2, ry, q2⟩ =>
  Calls.spliced_cons (thn (hf pins s2 σ H2 _ I2 q2) fun fv s3 ⟨z, H3, I3, rz, ov, g, q3⟩ => Calls.spliced_nil ?_))))
 exact b7L hu I3 g ry rz fun w' s4 I4 rw' => ⟨_, H3, I4, rw', q3⟩
theorem b3d (ho : PE X o td) (he : PE X e ty) (m : M1 X o "pop" apos e cpos) : PE X (.Call (.Attribute o "pop" apos) [e] [] cpos) (b6q td ty) := by
 intro pins s σ H Q I h
 refine wpAny_Call_method m.base m.few m.line PySem.F.plainAttrs_dict PySem.F.slot_dict_pop PySem.F.type_dict_pop (thn (ho pins s σ H _ I h) fun u s1 ⟨x, H1, I1, rx, a, ex, d, q1⟩ => ?_)
 subst ex
 obtain rfl : u = Value.ref a := rx
 obtain ⟨t1, t2, _⟩ := b1Q I1 d
 refine ⟨t1, t2, ?_⟩
 rw [m.trees]
 refine Calls.callWith_builtin rfl (Calls.evalArgs_plain (Calls.spliced_cons (thn (he pins s1 σ H1 _ I1 q1) fun iv s2 ⟨y, H2, I2, ry, kvs, k, v, ea, ey, l, q2⟩ => Calls.spliced_nil ?_)))
 subst ey
 exact b8I I2 ea ry l (.inl rfl) fun w' s3 I3 rw' => ⟨v, _, I3, rw', q2⟩
end
noncomputable def a4d (env : Env) : List (Str × NameKind) → List (Str × Addr) → List (Str × Addr)
 | [], acc => acc
 | (n, k) :: r, acc => a4d env r (if k == .free then (n, (env.cells.lookup n).getD 0) :: acc else acc)
theorem a3c (env : Env) (n : Str) (k : NameKind) (r : List (Str × NameKind)) (acc : List (Str × Addr)) : a4d env ((n, k) :: r) acc = a4d env r (if k == .free then (n, (env.cells.lookup n).getD 0) :: acc else acc) := rfl
theorem a3s (env : Env) (f : Str × NameKind → List (Str × Addr) → Sem (ForInStep (List (Str × Addr))))
  (hf : ∀ n k cs, f (n, k) cs = if (k == .free) = true then (do let a ← cellOf env n; pure (.yield ((n, a) :: cs))) else pure (.yield cs)) :
  ∀ (names : List (Str × NameKind)) (acc : List (Str × Addr)), (∀ y ∈ names, y.2 = .free → ∃ c, env.cells.lookup y.1 = some c) → forIn names acc f = (pure (a4d env names acc) : Sem _)
 | [], acc, _ => by rw [List.forIn_nil]; rfl
 | (n, k) :: r, acc, h => by
   rw [List.forIn_cons, hf]
   have hr : ∀ y ∈ r, y.2 = .free → ∃ c, env.cells.lookup y.1 = some c := fun y hy => h y (List.mem_cons_of_mem _ hy)
   by_cases hk : (k == NameKind.free) = true
   ·rw [if_pos hk]
    obtain ⟨c, hc⟩ := h (n, k) List.mem_cons_self (by simpa using hk)
    have hc' : env.cells.lookup n = some c := hc
    have e : cellOf env n = pure c := by unfold cellOf; rw [hc']
    rw [e]
    simp only [pure_bind]
    rw [a3s env f hf r _ hr]
    rw [a3c, if_pos hk, hc']
    rfl
   ·rw [if_neg hk]
    simp only [pure_bind]
    rw [a3s env f hf r _ hr]
    rw [a3c, if_neg hk]
theorem a6M (scope : Scope) (env : Env) (h : ∀ y ∈ scope.names, y.2 = .free → ∃ c, env.cells.lookup y.1 = some c) : closureFor scope env = pure (a4d env scope.names []) := by
 unfold closureFor
 dsimp only
 rw [a3s env _ (fun n k cs => by cases hk : (k == NameKind.free) <;> simp [hk] <;> rfl) scope.names [] h]
 rfl
theorem a3E (env : Env) : ∀ (names : List (Str × NameKind)) (acc : List (Str × Addr)) (x : Str) (c : Addr), (a4d env names acc).lookup x = some c →
  (acc.lookup x = some c ∨ ((x, .free) ∈ names ∧ c = (env.cells.lookup x).getD 0))
 | [], acc, x, c, h => .inl h
 | (n, k) :: r, acc, x, c, h => by
   rw [a3c] at h
   rcases a3E env r _ x c h with q | ⟨q1, q2⟩
   ·split at q
    ·rename_i hk
     have hk' : k = .free := by simpa using hk
     subst hk'
     rw [List.lookup_cons] at q
     split at q
     ·rename_i hx
      have : x = n := by simpa using hx
      subst this
      cases q
      exact .inr ⟨List.mem_cons_self, rfl⟩
     ·exact .inl q
    ·exact .inl q
   ·exact .inr ⟨List.mem_cons_of_mem _ q1, q2⟩
theorem a7T (env : Env) : ∀ (names : List (Str × NameKind)) (acc : List (Str × Addr)) (x : Str), (∃ c, acc.lookup x = some c) → ∃ c, (a4d env names acc).lookup x = some c
 | [], acc, x, h => h
 | (n, k) :: r, acc, x, h => by
   rw [a3c]
   refine a7T env r _ x ?_
   split
   ·rw [List.lookup_cons]
    split
    ·exact ⟨_, rfl⟩
    ·exact h
   ·exact h
theorem a5t (env : Env) : ∀ (names : List (Str × NameKind)) (acc : List (Str × Addr)) (x : Str), (x, NameKind.free) ∈ names → ∃ c, (a4d env names acc).lookup x = some c
 | [], acc, x, h => by simp at h
 | (n, k) :: r, acc, x, h => by
   rw [a3c]
   rcases List.mem_cons.mp h with e | h
   ·cases e
    refine a7T env r _ _ ?_
    rw [if_pos (by decide), List.lookup_cons]
    simp
   ·exact a5t env r _ x h
noncomputable def ownB (names : List (Str × NameKind)) (x : Str) : Bool := names.any fun y => y.1 == x && y.2 == .cell
theorem a9p {names : List (Str × NameKind)} {x : Str} : ownB names x = true ↔ (x, NameKind.cell) ∈ names := by
 unfold ownB
 rw [List.any_eq_true]
 constructor
 ·rintro ⟨⟨n, k⟩, h, e⟩
  simp only [Bool.and_eq_true, beq_iff_eq] at e
  obtain ⟨rfl, rfl⟩ := e
  exact h
 ·intro h
  exact ⟨_, h, by simp⟩
theorem a0O : ∀ (names : List (Str × NameKind)) (n : Nat) (acc : List (Str × Addr)), cellsFrom n names acc = cellsFrom n names [] ++ acc
 | [], _, _ => rfl
 | (x, k) :: r, n, acc => by
   unfold cellsFrom
   split
   ·rw [a0O r (n + 1) ((x, n) :: acc), a0O r (n + 1) [(x, n)], List.append_assoc]; rfl
   ·exact a0O r n acc
theorem a1Y : ∀ (names : List (Str × NameKind)) (n : Nat) {x : Str} {c : Addr}, (x, c) ∈ cellsFrom n names [] → n ≤ c ∧ (x, NameKind.cell) ∈ names
 | [], _, _, _, h => nomatch h
 | (y, k) :: r, n, x, c, h => by
   unfold cellsFrom at h
   split at h
   ·rename_i hk
    have hk' : k = .cell := by simpa using hk
    subst hk'
    rw [a0O] at h
    rcases List.mem_append.mp h with h | h
    ·have := a1Y r (n + 1) h
     exact ⟨by lia, List.mem_cons_of_mem _ this.2⟩
    ·cases List.mem_singleton.mp h
     exact ⟨Nat.le_refl _, List.mem_cons_self⟩
   ·have := a1Y r n h
    exact ⟨this.1, List.mem_cons_of_mem _ this.2⟩
theorem a2p : ∀ (names : List (Str × NameKind)) (n : Nat) {x : Str}, (x, NameKind.cell) ∈ names → ((cellsFrom n names []).lookup x).isSome = true
 | [], _, _, h => nomatch h
 | (y, k) :: r, n, x, h => by
   unfold cellsFrom
   rcases List.mem_cons.mp h with e | h
   ·cases e
    rw [if_pos (by decide), a0O, List.lookup_append]
    cases hh : (cellsFrom (n + 1) r []).lookup y with
    | some c => rfl
    | none => simp
   ·have i0 := a2p r n h
    have i1 := a2p r (n + 1) h
    split
    ·rw [a0O, List.lookup_append]
     cases hh : (cellsFrom (n + 1) r []).lookup x with
     | some c => rfl
     | none => rw [hh] at i1; cases i1
    ·exact i0
theorem a2F : ∀ (names : List (Str × NameKind)) (n : Nat), (cellsFrom n names []).Pairwise fun x y => x.2 ≠ y.2
 | [], _ => List.Pairwise.nil
 | (y, k) :: r, n => by
   unfold cellsFrom
   split
   ·rw [a0O]
    refine List.pairwise_append.mpr ⟨a2F r (n + 1), List.pairwise_singleton _ _, fun a ha b hb => ?_⟩
    rw [List.mem_singleton.mp hb]
    have := (a1Y r (n + 1) (x := a.1) (c := a.2) ha).1
    show a.2 ≠ n
    exact Nat.ne_of_gt (Nat.lt_of_succ_le this)
   ·exact a2F r n
theorem a4w {M : Model} {A : Around} {E : Value → Shared → Prop} {s : Shared} {scope : Scope} {globals : Addr} {closure : List (Str × Addr)} {qual : Str} {func : Option Addr} {code : Value} {around : Env} {builtins : Addr} {Q : Env → Shared → Prop}
  (hQ : ∀ h', h' = pushCells (s.heap.push { cls := .type "dict", data := .dict #[] }) scope.names → Q (newEnv scope s.heap.objs.size globals (cellsFrom (s.heap.objs.size + 1) scope.names [] ++ closure) qual func code (some around) builtins) { s with heap := h' }) :
  wpAny M A (newFunctionEnv scope globals closure [] qual func code (some around) builtins) Q E s := by
 simp only [newFunctionEnv, Option.isSome_some, if_true]
 refine wpAny_bind (wpAny_alloc ?_)
 refine wpAny_bind (wpAny_layCells _ (fun name kind cells => by cases hkc : kind == NameKind.cell <;> simp [hkc]) _ _ _ _ ?_)
 rw [a0O, show ({ s with heap := s.heap.push { cls := .type "dict", data := .dict #[] } } : Shared).heap.objs.size = s.heap.objs.size + 1 from Heap.size_push ..]
 refine wpAny_bind ?_
 rw [List.forIn_nil]
 exact wpAny_pure (wpAny_pure (hQ _ rfl))
section
variable {prog : Program} {w : World} {A : Around} {R : Result → Shared → Prop} {s : Shared}
theorem a3R {elt target iter : Expr} {ifs : List Expr} {scope : Scope} {pos : Pos} {it acc : Value} {env : Env} (I : Nat → Shared → Prop)
  (turn : ∀ n s, I n s → wpAny (model prog w) A (pyNext it) (fun r s₁ => match r with
   | none => R (.ok .next) s₁
   | some v => wpAny (model prog w) A (letOwnedTupleGo target it v) (fun _ s₁' => wpAny (model prog w) A (assign target env v) (fun _ s₂ =>
     wpAny (model prog w) A (forIn ifs true fun c r => if r = true then do let ok ← isTrue c env (eval c env); pure (ForInStep.yield ok) else pure (ForInStep.yield r)) (fun ok s₃ =>
      if ok = true then wpAny (model prog w) A (eval elt env) (fun x s₄ =>
       wpAny (model prog w) A (call (.builtin "list.append") [acc, x]) (fun _ s₅ => ∃ m, m < n ∧ I m s₅) (notedBy (model prog w) A env fun e s' => R (.error e) s') s₄) (notedBy (model prog w) A env fun e s' => R (.error e) s') s₃
      else ∃ m, m < n ∧ I m s₃) (notedBy (model prog w) A env fun e s' => R (.error e) s') s₂) (notedBy (model prog w) A env fun e s' => R (.error e) s') s₁') (notedBy (model prog w) A env fun e s' => R (.error e) s') s₁) (notedBy (model prog w) A env fun e s' => R (.error e) s') s)
  (n : Nat) (h : I n s) :
  codeAny (model prog w) A (.compLoop (.ListComp elt [⟨target, iter, ifs, 0⟩] scope pos) 0 it acc env) R s := by
 refine codeAny_loop rfl I (fun n s hI => ?_) n h
 show wpAny _ A ((compTurn (.ListComp elt [⟨target, iter, ifs, 0⟩] scope pos) 0 it acc env).onRaise (fun x => do noteFrame x env; theTreesLotGoes x)) _ _ s
 refine wpAny_noted ?_
 rw [compTurn_list]
 refine wpAny_bind (wpAny_standAt (wpAny_bind (wpAny_mono (turn n s hI) (fun r s₁ h₁ => ?_) fun _ _ h' => h')))
 cases r with
 | none => exact wpAny_pure h₁
 | some v =>
   refine wpAny_bind (wpAny_mono h₁ (fun _ s₁' h₁' => wpAny_bind (wpAny_mono h₁' (fun _ s₂ h₂ => wpAny_bind (wpAny_mono h₂ (fun ok s₃ h₃ => ?_) fun _ _ h' => h')) fun _ _ h' => h')) fun _ _ h' => h')
   cases ok with
   | false => exact wpAny_pure ⟨rfl, h₃⟩
   | true =>
     exact wpAny_bind (wpAny_bind (wpAny_mono h₃ (fun x s₄ h₄ => wpAny_bind (wpAny_mono h₄ (fun _ s₅ h₅ => wpAny_pure (wpAny_pure ⟨rfl, h₅⟩)) fun _ _ h' => h')) fun _ _ h' => h'))
end
noncomputable def blk (X : Cx) (N' : List Str) (scope : Scope) (C : Addr) (s : Shared) (H : Hp) (fp : List Addr) (pins : List (Addr × Obj)) : Cx where
 prog := X.prog
 w := X.w
 K := X.K
 mg := X.mg
 base := X.base
 A := X.A
 N := N'
 s₀ := s
 H₀ := H
 env := compEnvC scope (cellsFrom (C + 1) scope.names [] ++ a4d X.env scope.names []) C X.env
 outer := X.stack
 stack := X.stack
 ex := fp
 fn := ownB scope.names
 calm := X.calm
 pn := X.pn ++ pins
 xe := fun _ _ => False
structure BlkScope (X : Cx) (N' : List Str) (ix : List (Option Nat)) (scope : Scope) : Prop where
 kind : scope.kind = .function
 locs : ∀ y ∈ scope.names, y.2 = .local → scope.names.lookup y.1 = some .local
 frees : ∀ y ∈ scope.names, y.2 = .free → (X.env.kindOf y.1 = some .cell ∨ X.env.kindOf y.1 = some .free)
 look : ∀ x k, (relabel scope X.env).names.lookup x = some k → (k = .cell ∨ k = .free) → (x, NameKind.free) ∈ scope.names ∨ (x, NameKind.cell) ∈ scope.names
 lenI : ix.length = N'.length
 at_ : ∀ (i j : Nat) (x : Str), ix[i]? = some (some j) → N'[i]? = some x → X.N[j]? = some x ∧ (x, NameKind.free) ∈ scope.names ∧ ownB scope.names x = false ∧ (relabel scope X.env).names.lookup x = X.env.kindOf x
variable {X : Cx} {pins : List (Addr × Obj)} {σ : St} {H : Hp} {s : Shared} {N' : List Str} {ix : List (Option Nat)} {scope : Scope}
noncomputable def pick (ix : List (Option Nat)) (σ : St) : St := ix.map fun o => match o with | some j => (σ[j]?).join | none => none
theorem a9m {i : Nat} {v : V} (e : (pick ix σ)[i]? = some (some v)) : ∃ j, ix[i]? = some (some j) ∧ σ[j]? = some (some v) := by
 unfold pick at e
 rw [List.getElem?_map] at e
 cases h : ix[i]? with
 | none => rw [h] at e; cases e
 | some o =>
   rw [h] at e
   cases o with
   | none =>
     have e' : (none : Option V) = some v := Option.some.inj e
     cases e'
   | some j =>
     have e' : (σ[j]?).join = some v := Option.some.inj e
     refine ⟨j, rfl, ?_⟩
     cases hj : σ[j]? with
     | none => rw [hj] at e'; cases e'
     | some u => rw [hj] at e'; exact congrArg some e'
theorem a1Z (I : Inv X pins σ H s) (S : BlkScope X N' ix scope) (C : Addr) {x : Str} {c : Addr} (e : (cellsFrom (C + 1) scope.names [] ++ a4d X.env scope.names []).lookup x = some c) :
  (C < c ∧ (cellsFrom (C + 1) scope.names []).lookup x = some c) ∨ (ownB scope.names x = false ∧ X.env.cells.lookup x = some c) := by
 rw [List.lookup_append] at e
 cases h : (cellsFrom (C + 1) scope.names []).lookup x with
 | some c' =>
   rw [h] at e
   cases e
   exact .inl ⟨(a1Y _ _ (mem_of_lookup h)).1, rfl⟩
 | none =>
   rw [h] at e
   refine .inr ⟨Bool.eq_false_iff.mpr fun z => ?_, ?_⟩
   ·have := a2p scope.names (C + 1) (a9p.mp z)
    rw [h] at this; cases this
   ·have e' : (a4d X.env scope.names []).lookup x = some c := e
    rcases a3E X.env scope.names [] x c e' with q | ⟨q, rfl⟩
    ·cases q
    ·obtain ⟨c, hc⟩ := I.ok.has x (S.frees _ q rfl)
     rw [hc] <;> rfl
theorem b7Q {fp : List Addr} {C : Addr} (I : Inv X pins σ H s) (hf : ∀ b ∈ fp, FpOk X pins H b) (S : BlkScope X N' ix scope) (hC : s.heap.objs.size ≤ C) (hfo : ∀ b ∈ fp, ∃ o, s.heap.get? b = some o) :
  (blk X N' scope C s H fp pins).Ok := by
 have lt : ∀ x c, X.env.cells.lookup x = some c → c < C := fun x c e => by
  obtain ⟨v, z⟩ := I.cell x c e
  exact Nat.lt_of_lt_of_le z.lt hC
 refine ⟨I.ok.mod, ?_, I.ok.glob, I.ok.blt, hC, fun x y c h1 h2 => ?_, fun x hx => ?_, fun x c hf' e => ?_, I.ok.hd, I.ok.frames, .inl rfl, fun b hb => ?_, I.bs, Nat.le_trans I.ok.bsz I.sz, fun b o e hb => ?_, fun b hb hs => ?_, I.stack, I.stkFree⟩
 ·exact S.kind
 ·rcases a1Z I S C h1 with ⟨a1, a2⟩ | ⟨a1, a2⟩ <;> rcases a1Z I S C h2 with ⟨b1, b2⟩ | ⟨b1, b2⟩
  ·exact name_of_addr (a2F _ _) (mem_of_lookup a2) (mem_of_lookup b2)
  ·exact absurd (Nat.lt_trans (lt _ _ b2) a1) (Nat.lt_irrefl _)
  ·exact absurd (Nat.lt_trans (lt _ _ a2) b1) (Nat.lt_irrefl _)
  ·exact I.ok.inj x y c a2 b2
 ·have hx' : (relabel scope X.env).names.lookup x = some .cell ∨ (relabel scope X.env).names.lookup x = some .free := hx
  have key : (x, NameKind.free) ∈ scope.names ∨ (x, NameKind.cell) ∈ scope.names := by
   rcases hx' with hx' | hx'
   ·exact S.look x _ hx' (.inl rfl)
   ·exact S.look x _ hx' (.inr rfl)
  show ∃ c, (cellsFrom (C + 1) scope.names [] ++ a4d X.env scope.names []).lookup x = some c
  rw [List.lookup_append]
  cases h : (cellsFrom (C + 1) scope.names []).lookup x with
  | some c => exact ⟨c, rfl⟩
  | none =>
    rcases key with k | k
    ·obtain ⟨c, hc⟩ := a5t X.env scope.names [] x k
     exact ⟨c, by rw [hc]; rfl⟩
    ·have := a2p scope.names (C + 1) k
     rw [h] at this; cases this
 ·rcases a1Z I S C e with ⟨a1, a2⟩ | ⟨a1, a2⟩
  ·exact Nat.le_of_lt (Nat.lt_of_le_of_lt hC a1)
  ·have hf2 : ownB scope.names x = true := hf'
   rw [a1] at hf2; cases hf2
 ·obtain ⟨f0, f1, f2, f3, f4, f5⟩ := hf b hb
  obtain ⟨o, ho⟩ := hfo b hb
  refine ⟨Nat.ne_of_lt (Nat.lt_of_lt_of_le (Heap.lt_size ho) hC), fun x c e => ?_⟩
  rcases a1Z I S C e with ⟨a1, a2⟩ | ⟨a1, a2⟩
  ·exact Nat.ne_of_gt (Nat.lt_trans (Nat.lt_of_lt_of_le (Heap.lt_size ho) hC) a1)
  ·exact f4 x c a2
 ·obtain ⟨f0, f1, f2, f3, f4, f5⟩ := hf b hb
  have := (I.ok.bs b o e).1
  rcases f3 with z | z
  ·exact I.ok.noex b o e z
  ·exact absurd (Nat.lt_of_lt_of_le (Heap.lt_size this) z) (Nat.lt_irrefl _)
 ·obtain ⟨f0, f1, f2, f3, f4, f5⟩ := hf b hb
  rcases List.mem_cons.mp (I.stkSub b hs) with e | e
  ·exact f1 e
  ·exact f2 e
theorem b2B {fp : List Addr} {C : Addr} {h₁ : Heap} {tk : Nat} (I : Inv X pins σ H s) (hf : ∀ b ∈ fp, FpOk X pins H b) (S : BlkScope X N' ix scope) (hC : s.heap.objs.size ≤ C) (hfo : ∀ b ∈ fp, ∃ o, s.heap.get? b = some o)
  (hns : h₁.Ns C (fun _ => none)) (hk : ∀ b o, s.heap.get? b = some o → h₁.get? b = some o) (hown : ∀ x c, (x, c) ∈ cellsFrom (C + 1) scope.names [] → h₁.IsCell c none) :
  Inv (blk X N' scope C s H fp pins) [] (pick ix σ) H { s with heap := h₁, toks := tk } := by
 have nC : ∀ b o, s.heap.get? b = some o → b ≠ C := fun b o e => Nat.ne_of_lt (Nat.lt_of_lt_of_le (Heap.lt_size e) hC)
 refine ⟨b7Q I hf S hC hfo, rfl, I.bare, Un.kept hk, ⟨_, hns, fun i x v h1 h2 h3 => ?_⟩, fun x c e => ?_, I.hok.fresh hC, fun x c e => ?_, fun p hp => ?_, I.hok.kept hk, ?_⟩
 ·obtain ⟨j, e1, e2⟩ := a9m h2
  obtain ⟨a1, a2, a4, a3⟩ := S.at_ i j x e1 h1
  have kd := S.frees _ a2 rfl
  have vis : Vis X.env.scope x := by
   rcases kd with k | k
   ·exact .inr (.inl k)
   ·exact .inr (.inr k)
  obtain ⟨m, hn, hl⟩ := I.loc
  obtain ⟨u, r, l⟩ := hl j x v a1 e2 vis
  refine ⟨u, r, .inr ?_⟩
  have kd' : X.env.kindOf x = some .cell ∨ X.env.kindOf x = some .free := kd
  rcases l with ⟨k, _⟩ | ⟨k, c, ec, z⟩
  ·rcases kd' with q | q <;> (rw [q] at k; cases k)
  ·refine ⟨?_, c, ?_, z.keeps hk⟩
   ·show (relabel scope X.env).names.lookup x = some .cell ∨ (relabel scope X.env).names.lookup x = some .free
    rw [a3]; exact kd'
   ·obtain ⟨c', hc'⟩ := a5t X.env scope.names [] x a2
    show (cellsFrom (C + 1) scope.names [] ++ a4d X.env scope.names []).lookup x = some c
    have hn : (cellsFrom (C + 1) scope.names []).lookup x = none := by
     cases h : (cellsFrom (C + 1) scope.names []).lookup x with
     | none => rfl
     | some c2 =>
       have := a9p.mpr (a1Y _ _ (mem_of_lookup h)).2
       rw [a4] at this; cases this
    rw [List.lookup_append, hn]
    show (a4d X.env scope.names []).lookup x = some c
    rcases a3E X.env scope.names [] x c' hc' with q | ⟨q, q2⟩
    ·cases q
    ·rw [hc', q2, ec]; rfl
 ·rcases a1Z I S C e with ⟨a1, a2⟩ | ⟨a1, a2⟩
  ·exact ⟨none, hown x c (mem_of_lookup a2)⟩
  ·obtain ⟨v, z⟩ := I.cell x c a2
   exact ⟨v, z.keeps hk⟩
 ·rcases a1Z I S C e with ⟨a1, a2⟩ | ⟨a1, a2⟩
  ·exact I.hok.fresh (Nat.le_of_lt (Nat.lt_of_le_of_lt hC a1))
  ·exact I.freeC x c a2
 ·have hp' : p ∈ X.pn ++ pins := by
   have : p ∈ (X.pn ++ pins) ++ [] := hp
   simpa using this
  obtain ⟨e, n, ne, nf, d⟩ := I.pin p hp'
  refine ⟨hk _ _ e, n, nC _ _ e, fun hb => ?_, d⟩
  rcases List.mem_cons.mp (I.stkSub _ hb) with z | z
  ·exact ne z
  ·exact nf z
 ·show (pick ix σ).length = N'.length
  unfold pick
  rw [List.length_map, S.lenI]
theorem b5T {fp : List Addr} {C D : Addr} {h' : Heap} {H' : Hp} {σ' : St} {s' : Shared} {ys : List V} {its : List Value} {cap : Nat} (I : Inv X pins σ H s) (hf : ∀ b ∈ fp, FpOk X pins H b) (hC : s.heap.objs.size ≤ C) (hD : s.heap.objs.size ≤ D) (hDC : D ≠ C)
  (J : Inv (blk X N' scope C s H fp pins) [] σ' H' s') (hDn : H' D = none) (ho : s'.heap.get? D = some { cls := .type "list", data := .seq its.toArray cap }) (r : Vals ys its) (hz : ys.length ≤ sizeLine) (sb : Heap.SameBut C s'.heap h') :
  Inv X pins σ (upd H' D (.lst ys)) { s' with heap := h' } := by
 have sb' : ∀ b o, b ≠ C → s'.heap.get? b = some o → h'.get? b = some o := sb.extBut
 have nC : ∀ b o, s.heap.get? b = some o → b ≠ C := fun b o e => Nat.ne_of_lt (Nat.lt_of_lt_of_le (Heap.lt_size e) hC)
 have nD : ∀ b o, s.heap.get? b = some o → b ≠ D := fun b o e => Nat.ne_of_lt (Nat.lt_of_lt_of_le (Heap.lt_size e) hD)
 have hCn : H' C = none := J.free
 have u := J.base
 refine I.call' (ch := fp) (s' := { s' with heap := h' }) J.os ⟨fun b o e n hb hx => ?_, fun b o e n hb hx => ?_, fun b o e n hx => ?_, fun b o e hx => ?_, fun b xs e => ?_, fun b o v e => ?_, fun b ps e => ?_⟩ (fun b o e => ?_) J.bare (fun b hb => ?_)
 ·exact sb' _ _ (nC b o e) (u.keep b o e n hb hx)
 ·obtain ⟨sl, q⟩ := u.slot b o e n hb hx
  exact ⟨sl, sb' _ _ (nC b o e) q⟩
 ·rw [a0n (nD b o e)]; exact u.free b o e n hx
 ·obtain ⟨o', q⟩ := u.there b o e hx
  exact ⟨o', sb' _ _ (nC b o e) q⟩
 ·have q := u.tups b xs e
  rw [a0n (a0l q hDn)]; exact q
 ·have q := u.frzs b o v e
  rw [a0n (a0l q hDn)]; exact q
 ·obtain ⟨m, q⟩ := u.tbls b ps e
  exact ⟨m, by rw [a0n (a0l q hDn)]; exact q⟩
 ·by_cases hb : b = D
  ·subst hb
   rw [a0u] at e; cases e
   exact ⟨hz, its, cap, r, sb' _ _ hDC ho⟩
  ·rw [a0n hb] at e
   refine (J.hok b o e).stay (fun c v hc q => sb' c v ?_ q) (fun c q => by rw [a0n (a0l q hDn)]; exact q) fun c xs q => by rw [a0n (a0l q hDn)]; exact q
   rcases hc with rfl | hc
   ·exact a0l e hCn
   ·exact a0l hc hCn
 ·obtain ⟨f0, f1, f2, f3, f4, f5⟩ := hf b hb
  exact ⟨f3, f1, f4, f5⟩
noncomputable def b2M (wi : TI) (ix : List (Option Nat)) (g : TG) (tt : TT) (te : TE) : TE := fun σ H Q => wi σ H fun J H1 => ∃ W : Nat → Nat → List V → Hp → Prop, (∃ m, W 0 m [] H1) ∧ ∀ i m ys H, W i m ys H →
 (J.stop i H ∧ ys.length ≤ sizeLine ∧ ∀ p, H p = none → Q (.ref p) (upd H p (.lst ys))) ∨
 (J.go i H ∧ ys.length < sizeLine ∧ ∀ x H', J.yld i H x H' → g x (pick ix σ) H' fun σ2 H2 => tt σ2 H2 fun ok H3 =>
  if ok = true then te σ2 H3 fun y H4 => ∃ m', m' < m ∧ W (i + 1) m' (ys ++ [y]) H4 else ∃ m', m' < m ∧ W (i + 1) m' ys H3)
noncomputable def PTs (X : Cx) (ifs : List Expr) (t : TT) : Prop :=
 ∀ (pins : List (Addr × Obj)) (s : Shared) (σ : St) (H : Hp) (Q : Bool → Hp → Prop), Inv X pins σ H s → t σ H Q →
   wpAny (model X.prog X.w) X.A (forIn ifs true fun c r => if r = true then do let ok ← isTrue c X.env (eval c X.env); pure (ForInStep.yield ok) else pure (ForInStep.yield r)) (TP X pins σ Q) X.xe s
noncomputable def tYes : TT := fun _ H Q => Q true H
theorem b4X : PTs X [] tYes := fun _ _ _ H _ I h => wpAny_tests_nil ⟨H, I, h⟩
theorem b4W {c : Expr} {t : TT} (h : PT X c t) : PTs X [c] t := fun pins s σ H Q I hw => wpAny_tests_one (h pins s σ H Q I hw)
noncomputable def Agr (ix : List (Option Nat)) (σ σ2 : St) : Prop := σ2.length = σ.length ∧ ∀ (k j : Nat), ix[k]? = some (some j) → σ2[k]? = σ[k]?
noncomputable def Own (ix : List (Option Nat)) (g : TG) : Prop := ∀ (x : V) (σ0 σ : St) (H : Hp) (Q : St → Hp → Prop), Agr ix σ0 σ → g x σ H Q → g x σ H fun σ2 H2 => Q σ2 H2 ∧ Agr ix σ0 σ2
noncomputable def Owns (ix : List (Option Nat)) (g : TGs) : Prop := ∀ (x : List V) (σ0 σ : St) (H : Hp) (Q : St → Hp → Prop), Agr ix σ0 σ → g x σ H Q → g x σ H fun σ2 H2 => Q σ2 H2 ∧ Agr ix σ0 σ2
noncomputable def b7X (g : TG) : Prop := ∀ (x : V) (σ : St) (H : Hp) (Q Q' : St → Hp → Prop), (∀ σ H, Q σ H → Q' σ H) → g x σ H Q → g x σ H Q'
theorem a6r {ix : List (Option Nat)} {i : Nat} (h : ix[i]? = some none) : Own ix (a7J i) := by
 intro x σ0 σ H Q a q
 refine ⟨q, by rw [List.length_set]; exact a.1, fun k j hk => ?_⟩
 rw [List.getElem?_set_ne]
 ·exact a.2 k j hk
 ·rintro rfl
  rw [h] at hk; cases hk
theorem a5V {i : Nat} : b7X (a7J i) := fun x σ H Q Q' h q => h _ _ q
theorem b3j {ix : List (Option Nat)} : Owns ix gNil := by
 intro x σ0 σ H Q a q
 exact ⟨q.1, q.2, a⟩
theorem a7f {ix : List (Option Nat)} {t : TG} {u : TGs} (m : b7X t) (h1 : Own ix t) (h2 : Owns ix u) : Owns ix (b3D t u) := by
 intro x σ0 σ H Q a q
 obtain ⟨v, r, e, q⟩ := q
 exact ⟨v, r, e, m _ _ _ _ _ (fun σ1 H1 q1 => h2 _ σ0 _ _ _ q1.2 q1.1) (h1 _ σ0 _ _ _ a q)⟩
theorem b5j {ix : List (Option Nat)} {K : PySem.W.Frag} {n : Nat} {t : TGs} (h : Owns ix t) : Own ix (gTup K n t) := by
 intro x σ0 σ H Q a q
 obtain ⟨p, xs, e1, e2, e3, q⟩ := q
 exact ⟨p, xs, e1, e2, e3, h _ σ0 _ _ _ a q⟩
theorem a7P {elt iter tg : Expr} {ifs : List Expr} {pos posc : Pos} {wi : TI} {g : TG} {tt : TT} {te : TE} (use : Option (Value → Sem Unit)) (QQ : Value → Shared → Prop) (hc : X.calm = true) (hi : PI X tg iter wi) (S : BlkScope X N' ix scope) (ow : Own ix g)
  (hg : ∀ C s H fp pins, PG (blk X N' scope C s H fp pins) tg g) (ht : ∀ C s H fp pins, PTs (blk X N' scope C s H fp pins) ifs tt) (he : ∀ C s H fp pins, PE (blk X N' scope C s H fp pins) elt te)
  (hs : ∀ x, foldedSetIterable iter X.env x = pure x) (pins : List (Addr × Obj)) (s : Shared) (σ : St) (H : Hp) (Q : VK) (I : Inv X pins σ H s) (h : b2M wi ix g tt te σ H Q)
  (hpost : ∀ (C D : Addr) (H5 : Hp) (s4 : Shared) (m : Str → Option Value), s4.heap.Ns C m → FpOk X pins H5 C → (∀ h', Heap.SameBut C s4.heap h' → Inv X pins σ H5 { s4 with heap := h' }) → Q (.ref D) H5 →
   compPost (model X.prog X.w) X.A X.xe use QQ (.ref D) C (.ok .next) s4) :
  wpAny (model X.prog X.w) X.A (comprehension (.ListComp elt [⟨tg, iter, ifs, 0⟩] scope pos) scope X.env posc (newList []) false (eval iter X.env) use) QQ X.xe s := by
 refine wpAny_comprehension_free (use := use) rfl hs (a6M scope X.env fun y hy hk => I.ok.has y.1 (S.frees y hy hk)) S.kind S.locs (thn (hi pins s σ H _ I h) fun v s1 h1 => thn h1 fun itv s2 h2 => ?_)
 obtain ⟨it, fp, tn, J, H2, e, I2, T, st2, f2, W, ⟨m0, w0⟩, turn⟩ := h2
 subst e
 have hfo : ∀ b ∈ fp, ∃ o, s2.heap.get? b = some o := fun b hb => let ⟨o, e, _⟩ := T.obj _ _ st2 b hb; ⟨o, e⟩
 refine wpAny_newObj_type (a4w (fun h₁ eh₁ => ?_))
 dsimp only at eh₁ ⊢
 generalize hH2 : s2.heap.push { cls := .type "list", dict := none, data := .seq ([] : List Value).toArray } = Hp2 at eh₁ ⊢
 have hC : Hp2.objs.size = s2.heap.objs.size + 1 := by rw [← hH2, Heap.size_push]
 have old1 : ∀ b o, Hp2.get? b = some o → h₁.get? b = some o := fun b o e => by rw [eh₁]; exact pushCells_keeps _ _ _ _ (Heap.get?_push_of_some _ e)
 have hns : h₁.Ns Hp2.objs.size (fun _ => none) := by rw [eh₁]; exact (Heap.Ns.new Hp2 (.type "dict")).keeps (pushCells_keeps _ _)
 have hown : ∀ x c, (x, c) ∈ cellsFrom (Hp2.objs.size + 1) scope.names [] → h₁.IsCell c none := fun x c hm => by
  have ok := cellsFrom_ok scope.names (Hp2.push { cls := .type "dict", data := .dict #[] }) (Hp2.objs.size + 1) [] ⟨fun _ _ hm => (nomatch hm), List.Pairwise.nil⟩ (by rw [Heap.size_push]; exact Nat.le_refl _)
  rw [Heap.size_push] at ok
  rw [eh₁]
  exact (ok.empty x c hm).1
 generalize hCC : Hp2.objs.size = C at hns hown hC ⊢
 generalize hDD : s2.heap.objs.size = D at hC
 have hCge : s2.heap.objs.size ≤ C := by rw [hDD, hC]; exact Nat.le_succ _
 have hDge : s2.heap.objs.size ≤ D := Nat.le_of_eq hDD
 have hDC : D ≠ C := by rw [hC]; exact Nat.ne_of_lt (Nat.lt_succ_self _)
 have hDlt : D < C := by rw [hC]; exact Nat.lt_succ_self _
 have old : ∀ b o, s2.heap.get? b = some o → h₁.get? b = some o := fun b o e => old1 b o (hH2 ▸ Heap.get?_push_of_some _ e)
 have hacc : h₁.get? D = some { cls := .type "list", data := .seq ([] : List Value).toArray 0 } := old1 _ _ (hH2 ▸ hDD ▸ Heap.get?_push_size _ rfl)
 have stat : ∀ {H' : Hp}, (∀ b ∈ fp, H' b = none) → ∀ b ∈ fp, FpOk (blk X N' scope C s2 H2 fp pins) [] H' b := fun hn b hb => by
  obtain ⟨f0, f1, f2, f3, f4, f5⟩ := f2 b hb
  obtain ⟨o, ho⟩ := hfo b hb
  refine ⟨hn b hb, Nat.ne_of_lt (Nat.lt_of_lt_of_le (Heap.lt_size ho) hCge), fun z => ?_, .inl hb, fun x c e => ?_, fun p hp => ?_⟩
  ·rcases List.mem_cons.mp (I2.stkSub _ z) with e | e
   ·exact f1 e
   ·exact f2 e
  ·rcases a1Z I2 S C e with ⟨a1, a2⟩ | ⟨a1, a2⟩
   ·exact Nat.ne_of_gt (Nat.lt_trans (Nat.lt_of_lt_of_le (Heap.lt_size ho) hCge) a1)
   ·exact f4 x c a2
  ·have : p ∈ (X.pn ++ pins) ++ [] := hp
   exact f5 p (by simpa using this)
 have hDs : D ∉ (blk X N' scope C s2 H2 fp pins).fs := fun hb => by
  rcases List.mem_cons.mp (I2.stkSub _ hb) with e | e
  ·rw [e] at hDge
   exact absurd (Nat.lt_of_lt_of_le I2.lt hDge) (Nat.lt_irrefl _)
  ·exact I2.nofs hDge e
 have loop : ∀ s₃ : Shared, s₃ = { s2 with heap := h₁ } →
   codeAny (model X.prog X.w) X.A (.compLoop (.ListComp elt [⟨tg, iter, ifs, 0⟩] scope pos) 0 (.ref it) (.ref D) (compEnvC scope (cellsFrom (C + 1) scope.names [] ++ a4d X.env scope.names []) C X.env))
    (compPost (model X.prog X.w) X.A X.xe use QQ (.ref D) C) s₃ := by
  rintro s₃ rfl
  refine a3R (fun n s' => ∃ i ys its cap H', Inv (blk X N' scope C s2 H2 fp pins) [] (pick ix σ) H' s' ∧ tn i s'.heap ∧ (∀ b ∈ fp, H' b = none) ∧ H' D = none ∧
    s'.heap.get? D = some { cls := .type "list", data := .seq (its : List Value).toArray cap } ∧ Vals ys its ∧ W i n ys H') ?_ m0
   ⟨0, [], [], 0, H2, b2B I2 f2 S hCge hfo hns old hown, T.keep _ _ _ st2 fun b _ o e => old b o e, fun b hb => (f2 b hb).1, I2.hok.fresh hDge, hacc, .nil, w0⟩
  rintro n s3 ⟨i, ys, its, cap, H3, I3, st3, fr3, hD3, ho3, r3, w3⟩
  have I3d : Inv (blk X N' scope C s2 H2 fp pins) [(D, { cls := .type "list", data := .seq its.toArray cap })] (pick ix σ) H3 s3 := I3.pins_of fun p hp => by
   have e : p = (D, { cls := .type "list", data := .seq its.toArray cap }) := by simpa using hp
   subst e
   exact ⟨ho3, hD3, hDC, hDs, fun v z => nomatch z⟩
  have statD : ∀ {H' : Hp}, (∀ b ∈ fp, H' b = none) → ∀ b ∈ fp, FpOk (blk X N' scope C s2 H2 fp pins) [(D, ({ cls := .type "list", data := .seq its.toArray cap } : Obj))] H' b := fun hn b hb => by
   obtain ⟨f0, f1, f2, f3, f4, f5⟩ := stat hn b hb
   obtain ⟨o, ho⟩ := hfo b hb
   refine ⟨f0, f1, f2, f3, f4, fun p hp => ?_⟩
   rcases List.mem_append.mp hp with z | z
   ·exact f5 p (List.mem_append_left _ z)
   ·have e : p = (D, ({ cls := .type "list", data := .seq its.toArray cap } : Obj)) := by simpa using z
    subst e
    exact Nat.ne_of_gt (Nat.lt_of_lt_of_le (Heap.lt_size ho) hDge)
  rcases turn i n ys H3 w3 with ⟨stop, hz, qn⟩ | ⟨go, hz, step⟩
  ·refine wpAny_noRaise (thn (T.done (blk X N' scope C s2 H2 fp pins) rfl rfl rfl hc i _ s3 (pick ix σ) H3 (fun _ _ => False) I3d (statD fr3) st3 stop) fun r s4 ⟨hr, I4⟩ => ?_)
   subst hr
   obtain ⟨e4, n4, _⟩ := I4.pin (D, _) (List.mem_append_right _ (List.mem_singleton.mpr rfl))
   obtain ⟨m, hn, _⟩ := id I4.loc
   have hC4 : H3 C = none := I4.free
   exact hpost C D _ _ m hn (I2.fpOk hCge (by rw [a0n (Ne.symm hDC)]; exact hC4)) (fun h' sb => b5T I2 f2 hCge hDge hDC (Inv.unpinned (pl := [(D, _)]) (pins := []) I4) n4 e4 r3 hz sb) (qn D n4)
  ·refine wpAny_noRaise (thn (T.item (blk X N' scope C s2 H2 fp pins) rfl rfl rfl hc i _ s3 (pick ix σ) H3 (fun _ _ => False) I3d (statD fr3) st3 go) fun r s4 ⟨u, hr, h4⟩ => ?_)
   subst hr
   refine wpAny_noRaise (thn h4 fun _ s5 ⟨x, H5, I5, r5, y5, st5, fr5⟩ => ?_)
   have I5' := I5.pinned (statD fr5) (T.obj _ _ st5)
   have again : ∀ {σ7 : St} {H7 : Hp} {s7 : Shared}, Inv (blk X N' scope C s2 H2 fp pins) ([(D, ({ cls := .type "list", data := .seq its.toArray cap } : Obj))] ++ a5L fp s5.heap) σ7 H7 s7 →
     H7 D = none ∧ s7.heap.get? D = some { cls := .type "list", data := .seq its.toArray cap } ∧ tn (i + 1) s7.heap ∧ ∀ b ∈ fp, H7 b = none := fun {σ7 H7 s7} I7 => by
    obtain ⟨e7, n7, _⟩ := I7.pin (D, _) (List.mem_append_right _ (List.mem_append_left _ (List.mem_singleton.mpr rfl)))
    refine ⟨n7, e7, T.keep _ _ _ st5 fun b hb o e => (I7.pin (b, o) (List.mem_append_right _ (List.mem_append_right _ (a3M hb e)))).1, fun b hb => ?_⟩
    obtain ⟨o, e, d⟩ := T.obj _ _ st5 b hb
    exact (I7.pin (b, o) (List.mem_append_right _ (List.mem_append_right _ (a3M hb e)))).2.1
   have forget : ∀ {σ7 : St} {H7 : Hp} {s7 : Shared}, Inv (blk X N' scope C s2 H2 fp pins) ([(D, ({ cls := .type "list", data := .seq its.toArray cap } : Obj))] ++ a5L fp s5.heap) σ7 H7 s7 →
     (∀ (k : Nat) v, (pick ix σ)[k]? = some (some v) → σ7[k]? = some (some v)) → σ7.length = (pick ix σ).length → Inv (blk X N' scope C s2 H2 fp pins) [] (pick ix σ) H7 s7 := fun {σ7 H7 s7} I7 hk hl =>
    (I7.pins_of (pins' := []) fun _ z => nomatch z).weak hl.symm hk
   refine wpAny_noRaise (thn (hg C s2 H2 fp pins _ s5 (pick ix σ) H5 x u _ I5' r5 (ow _ _ _ _ _ ⟨rfl, fun _ _ _ => rfl⟩ (step x H5 y5))) fun _ s6 ⟨σ6, H6, I6, q6, l6, k6⟩ => ?_)
   have back : ∀ (k : Nat) v, (pick ix σ)[k]? = some (some v) → σ6[k]? = some (some v) := fun k v e => by
    obtain ⟨j, e1, _⟩ := a9m e
    rw [k6 k j e1]; exact e
   refine wpAny_noRaise (thn (ht C s2 H2 fp pins _ s6 σ6 H6 _ I6 q6) fun ok s7 ⟨H7, I7, q7⟩ => ?_)
   cases ok with
   | false =>
     rw [if_neg Bool.false_ne_true]
     rw [if_neg Bool.false_ne_true] at q7
     obtain ⟨m', hm, w7⟩ := q7
     obtain ⟨a1, a2, a3, a4⟩ := again I7
     exact ⟨m', hm, i + 1, ys, its, cap, H7, forget I7 back l6, a3, a4, a1, a2, r3, w7⟩
   | true =>
     rw [if_pos rfl]
     rw [if_pos rfl] at q7
     refine wpAny_noRaise (thn (he C s2 H2 fp pins _ s7 σ6 H7 _ I7 q7) fun z s8 ⟨y, H8, I8, r8, m', hm, w8⟩ => ?_)
     obtain ⟨a1, a2, a3, a4⟩ := again I8
     have hl := r3.length
     refine wpAny_noRaise (wpAny_list_append_plain ⟨_, a2⟩ (fun h9 ⟨cap9, p9⟩ sb9 => ?_) (by rw [List.size_toArray, ← hl]; exact Nat.le_of_lt hz))
     have I9 : Inv (blk X N' scope C s2 H2 fp pins) [] (pick ix σ) H8 { s8 with heap := h9 } :=
      (forget I8 back l6).turned (t' := s8.toks) (it := D) (fun b o hb e => sb9.extBut b o hb e) a1 hDC (.inr hDge) (fun x c e => by
       rcases a1Z I2 S C e with ⟨a1, a2⟩ | ⟨a1, a2⟩
       ·exact Nat.ne_of_gt (Nat.lt_trans hDlt a1)
       ·obtain ⟨v, z⟩ := I2.cell x c a2
        exact Nat.ne_of_lt (Nat.lt_of_lt_of_le z.lt hDge)) (fun p hp => by
       have hp' : p ∈ (X.pn ++ pins) ++ [] := hp
       exact Nat.ne_of_lt (Nat.lt_of_lt_of_le (Heap.lt_size (I2.pin p (by simpa using hp')).1) hDge))
     refine ⟨m', hm, i + 1, ys ++ [y], its ++ [z], cap9, H8, I9, ?_, a4, a1, ?_, r3.append (.cons r8 .nil), w8⟩
     ·refine T.keep _ _ _ a3 fun b hb o e => sb9.extBut b o ?_ e
      obtain ⟨o', ho'⟩ := hfo b hb
      exact Nat.ne_of_lt (Nat.lt_of_lt_of_le (Heap.lt_size ho') hDge)
     ·rw [p9]; simp
 exact codeAny_compStart_list (loop _ rfl) (T.self _ _ _ _ _ (T.keep _ _ _ st2 fun b _ o e => old b o e) (loop _ rfl))
theorem b5e {elt iter tg : Expr} {ifs : List Expr} {pos : Pos} {wi : TI} {g : TG} {tt : TT} {te : TE} (hc : X.calm = true) (hi : PI X tg iter wi) (S : BlkScope X N' ix scope) (ow : Own ix g)
  (hg : ∀ C s H fp pins, PG (blk X N' scope C s H fp pins) tg g) (ht : ∀ C s H fp pins, PTs (blk X N' scope C s H fp pins) ifs tt) (he : ∀ C s H fp pins, PE (blk X N' scope C s H fp pins) elt te)
  (hs : ∀ x, foldedSetIterable iter X.env x = pure x := by intro _; rfl) :
  PE X (.ListComp elt [⟨tg, iter, ifs, 0⟩] scope pos) (b2M wi ix g tt te) := by
 intro pins s σ H Q I h
 rw [eval_ListComp]
 exact a7P none (EP X pins σ Q) hc hi S ow hg ht he hs pins s σ H Q I h fun C D H5 s4 m hn _ inv q => ⟨m, hn, fun h' sb => ⟨.ref D, H5, inv h' sb, rfl, q⟩⟩
theorem b5b {i : Nat} {x : Str} {elt iter tg : Expr} {ifs : List Expr} {pos pos' spos : Pos} {wi : TI} {g : TG} {tt : TT} {te : TE} (hN : X.N.Nodup) (hi' : X.N[i]? = some x) (hx : Loc X.env.scope x) (hc : X.calm = true) (hi : PI X tg iter wi) (S : BlkScope X N' ix scope) (ow : Own ix g)
  (hg : ∀ C s H fp pins, PG (blk X N' scope C s H fp pins) tg g) (ht : ∀ C s H fp pins, PTs (blk X N' scope C s H fp pins) ifs tt) (he : ∀ C s H fp pins, PE (blk X N' scope C s H fp pins) elt te)
  (hsw : swapsWith (.ListComp elt [⟨tg, iter, ifs, 0⟩] scope pos) (some (.Name x pos')) spos.line X.env = pure true)
  (hs : ∀ x, foldedSetIterable iter X.env x = pure x := by intro _; rfl) (hf : X.fn x = true ∨ X.env.scope.names.lookup x = some .local := by first | exact .inl rfl | exact .inr rfl | assumption) :
  PS X (.Assign [.Name x pos'] (.ListComp elt [⟨tg, iter, ifs, 0⟩] scope pos) spos) (tAsg (b2M wi ix g tt te) (a7J i)) := by
 intro pins s σ H D I h
 rw [exec_Assign_Name_used _ _ _ _ hsw]
 refine wpAny_bind (wpAny_standAt (wpAny_bind ?_))
 show wpAny _ X.A (do let _ ← comprehension (.ListComp elt [⟨tg, iter, ifs, 0⟩] scope pos) scope X.env _ (newList []) false (eval iter X.env) (some (assign (.Name x pos') X.env))) _ _ s
 refine wpAny_bind (thn (a7P (some (assign (.Name x pos') X.env)) (fun _ s' => SP X pins D .next s') hc hi S ow hg ht he hs pins s σ H _ I h ?_) fun _ s' hq => wpAny_pure (wpAny_pure hq))
 intro C D2 H5 s4 m hn fp inv q
 have I5 : Inv X pins σ H5 s4 := inv s4.heap (Heap.SameBut.refl _ _)
 refine wpAny_assign_Name (a6X I5 hN hi' hx (v := .ref D2) rfl (fun s5 I6 ⟨a, sb, ha⟩ => ?_) hf)
 obtain ⟨f0, f1, f2, f3, f4, f5⟩ := fp
 have hac : a ≠ C := by
  rcases ha with rfl | ha
  ·exact Ne.symm f1
  ·exact f4 x a ha
 refine ⟨m, hn.sameBut sb (Ne.symm hac), fun h' sb' => ⟨_, H5, I6.turned (t' := s5.toks) (it := C) (fun b o hb e => sb'.extBut b o hb e) f0 f1 f3 f4 f5, q⟩⟩
noncomputable def b2U (scope outer : Scope) : Scope :=
 { scope with names := scope.names.map fun (n, k) => if (k == .free && outer.kind == .function && outer.names.lookup n == some .cell) then (n, .cell) else (n, k) }
theorem a7e {scope : Scope} {env : Env} {x : Str} {k : NameKind} (h : (relabel scope env).names.lookup x = some k) (hk : k = .cell ∨ k = .free) : (x, NameKind.free) ∈ scope.names ∨ (x, NameKind.cell) ∈ scope.names := by
 have hm : (x, k) ∈ (relabel scope env).names := PySem.mem_of_lookup h
 unfold relabel at hm
 obtain ⟨⟨n, k0⟩, h1, h2⟩ := List.mem_map.mp hm
 dsimp only at h2
 split at h2
 ·rename_i hc
  have e1 : n = x := (Prod.mk.inj h2).1
  subst e1
  have : k0 = NameKind.free := by
   simp only [Bool.and_eq_true, beq_iff_eq] at hc
   exact hc.1.1
  rw [this] at h1; exact .inl h1
 ·have e1 := Prod.mk.inj h2
  obtain ⟨rfl, rfl⟩ := e1
  rcases hk with rfl | rfl
  ·exact .inr h1
  ·exact .inl h1
noncomputable def blkB (outer : Scope) (N N' : List Str) (ix : List (Option Nat)) (scope : Scope) : Bool :=
 decide (scope.kind = .function) && decide (outer.kind = .function) && scope.names.all (fun y => decide (y.2 = .local → scope.names.lookup y.1 = some .local)) &&
 scope.names.all (fun y => decide (y.2 = .free → (outer.names.lookup y.1 = some .cell ∨ outer.names.lookup y.1 = some .free))) && decide (ix.length = N'.length) &&
 (List.range ix.length).all fun i => match ix[i]?, N'[i]? with
  | some (some j), some x => decide (N[j]? = some x) && decide ((x, NameKind.free) ∈ scope.names) && !ownB scope.names x &&
    decide ((b2U scope outer).names.lookup x = outer.names.lookup x)
  | _, _ => true
theorem a1H {X : Cx} {outer scope : Scope} {N N' : List Str} {ix : List (Option Nat)} (h : blkB outer N N' ix scope = true) (ho : X.env.scope = outer) (hN : X.N = N) : BlkScope X N' ix scope := by
 unfold blkB at h
 simp only [Bool.and_eq_true, decide_eq_true_eq, List.all_eq_true] at h
 obtain ⟨⟨⟨⟨⟨h1, h2⟩, h4⟩, h5⟩, h6⟩, h7⟩ := h
 subst ho hN
 refine ⟨h1, h4, h5, fun x k hl hk => a7e hl hk, h6, fun i j x e1 e2 => ?_⟩
 have hi : i < ix.length := (List.getElem?_eq_some_iff.mp e1).1
 have q := h7 i (List.mem_range.mpr hi)
 rw [e1, e2] at q
 simp only [Bool.and_eq_true, decide_eq_true_eq, Bool.not_eq_true'] at q
 exact ⟨q.1.1.1, q.1.1.2, q.1.2, q.2⟩
theorem PE.imp {X : Cx} {e : Expr} {t t' : TE} (h : PE X e t) (f : ∀ σ H Q, t' σ H Q → t σ H Q) : PE X e t' := fun pins s σ H Q I q => h pins s σ H Q I (f σ H Q q)
theorem PT.imp {X : Cx} {e : Expr} {t t' : TT} (h : PT X e t) (f : ∀ σ H Q, t' σ H Q → t σ H Q) : PT X e t' := fun pins s σ H Q I q => h pins s σ H Q I (f σ H Q q)
theorem PA.imp {X : Cx} {e : List Expr} {t t' : TA} (h : PA X e t) (f : ∀ σ H Q, t' σ H Q → t σ H Q) : PA X e t' := fun pos pins s σ H Q I q => h pos pins s σ H Q I (f σ H Q q)
theorem PS.imp {X : Cx} {e : Stmt} {t t' : TS} (h : PS X e t) (f : ∀ D σ H, t' D σ H → t D σ H) : PS X e t' := fun pins s σ H D I q => h pins s σ H D I (f D σ H q)
theorem PSs.imp {X : Cx} {e : List Stmt} {t t' : TS} (h : PSs X e t) (f : ∀ D σ H, t' D σ H → t D σ H) : PSs X e t' := fun pins s σ H D I q => h pins s σ H D I (f D σ H q)
inductive T where
 | non | bl (b : Bool) | int (i : Int) | str (x : Str) | tup (ts : List T) | adr (a : Addr)
 /-- a list that never changes (the script; a module's own) -/
 | rd (ts : List T)
 /-- a tuple of whole numbers that can be a dict's key -/
 | dic (ks : List Int) (ts : List T)
noncomputable def FzL (K : PySem.W.Frag) (H : Hp) (a : Addr) (xs : List V) : Prop :=
 (∃ o, H a = some (.frz o (.lst xs))) ∨
  ∃ (o : Obj) (its : Array Value) (n : Nat), K.lookup a = some o ∧ o.cls = .type "list" ∧ o.dict = none ∧ o.data = .seq its n ∧ its.size ≤ sizeLine ∧ Vals xs its.toList
theorem FzL.sq {K : PySem.W.Frag} {H : Hp} {a : Addr} {xs : List V} (h : FzL K H a xs) : SqL K H a xs := by
 rcases h with ⟨o, h⟩ | h
 ·exact .inl (.inr ⟨o, h⟩)
 ·exact .inr h
mutual
noncomputable def Rep (K : PySem.W.Frag) (H : Hp) : V → T → Prop
 | v, .non => v = .non
 | v, .bl b => v = .bl b
 | v, .int i => v = .int i
 | v, .str x => v = .str x
 | v, .adr a => v = .ref a
 | v, .tup ts => ∃ a xs, v = .ref a ∧ SqT K H a xs ∧ Reps K H xs ts
 | v, .rd ts => ∃ a xs, v = .ref a ∧ FzL K H a xs ∧ Reps K H xs ts
 | v, .dic ks _ => ∃ b, v = .ref b ∧ H b = some (.tup (ks.map V.int))
noncomputable def Reps (K : PySem.W.Frag) (H : Hp) : List V → List T → Prop
 | vs, [] => vs = []
 | vs, t :: ts => ∃ v r, vs = v :: r ∧ Rep K H v t ∧ Reps K H r ts
end
structure Kp (K : PySem.W.Frag) (H H' : Hp) : Prop where
 tup : ∀ a xs, SqT K H a xs → SqT K H' a xs
 frz : ∀ a o u, H a = some (.frz o u) → H' a = some (.frz o u)
 tr : ∀ a xs, H a = some (.tup xs) → H' a = some (.tup xs)
theorem Kp.refl {K : PySem.W.Frag} {H : Hp} : Kp K H H := ⟨fun _ _ h => h, fun _ _ _ h => h, fun _ _ h => h⟩
theorem Kp.trans {K : PySem.W.Frag} {H H1 H2 : Hp} (a : Kp K H H1) (b : Kp K H1 H2) : Kp K H H2 := ⟨fun _ _ h => b.tup _ _ (a.tup _ _ h), fun _ _ _ h => b.frz _ _ _ (a.frz _ _ _ h), fun _ _ h => b.tr _ _ (a.tr _ _ h)⟩
structure KpW (K : PySem.W.Frag) (H H' : Hp) : Prop where
 tup : ∀ a xs, SqT K H a xs → SqT K H' a xs
 frz : ∀ a o u, H a = some (.frz o u) → H' a = some (.frz o u)
 tr : ∀ a xs, H a = some (.tup xs) → H' a = some (.tup xs)
theorem Kp.w {K : PySem.W.Frag} {H H' : Hp} (k : Kp K H H') : KpW K H H' := ⟨k.tup, k.frz, k.tr⟩
theorem KpW.fz {K : PySem.W.Frag} {H H' : Hp} {a : Addr} {xs : List V} (k : KpW K H H') (h : FzL K H a xs) : FzL K H' a xs := by
 rcases h with ⟨o, h⟩ | h
 ·exact .inl ⟨o, k.frz _ _ _ h⟩
 ·exact .inr h
mutual
theorem Rep.kw {K : PySem.W.Frag} {H H' : Hp} (k : KpW K H H') : ∀ (v : V) (t : T), Rep K H v t → Rep K H' v t
 | v, .non, h => h
 | v, .bl b, h => h
 | v, .int i, h => h
 | v, .str x, h => h
 | v, .adr a, h => h
 | v, .tup ts, h => by
   unfold Rep at h ⊢
   obtain ⟨a, xs, e, h1, h2⟩ := h
   exact ⟨a, xs, e, k.tup _ _ h1, Reps.kw k xs ts h2⟩
 | v, .rd ts, h => by
   unfold Rep at h ⊢
   obtain ⟨a, xs, e, h1, h2⟩ := h
   exact ⟨a, xs, e, k.fz h1, Reps.kw k xs ts h2⟩
 | v, .dic ks ts, h => by
   unfold Rep at h ⊢
   obtain ⟨b, e, h1⟩ := h
   exact ⟨b, e, k.tr _ _ h1⟩
theorem Reps.kw {K : PySem.W.Frag} {H H' : Hp} (k : KpW K H H') : ∀ (vs : List V) (ts : List T), Reps K H vs ts → Reps K H' vs ts
 | vs, [], h => h
 | vs, t :: ts, h => by
   unfold Reps at h ⊢
   obtain ⟨v, r, e, h1, h2⟩ := h
   exact ⟨v, r, e, Rep.kw k v t h1, Reps.kw k r ts h2⟩
end
theorem Rep.kp {K : PySem.W.Frag} {H H' : Hp} (k : Kp K H H') (v : V) (t : T) (h : Rep K H v t) : Rep K H' v t := Rep.kw k.w v t h
theorem Reps.kp {K : PySem.W.Frag} {H H' : Hp} (k : Kp K H H') (vs : List V) (ts : List T) (h : Reps K H vs ts) : Reps K H' vs ts := Reps.kw k.w vs ts h
section
variable {K : PySem.W.Frag} {H : Hp}
theorem Reps.cons {v : V} {t : T} {vs : List V} {ts : List T} (h : Rep K H v t) (r : Reps K H vs ts) : Reps K H (v :: vs) (t :: ts) := by
 unfold Reps; exact ⟨v, vs, rfl, h, r⟩
theorem Reps.nil : Reps K H [] [] := by unfold Reps; rfl
theorem Reps.length : ∀ {vs : List V} {ts : List T}, Reps K H vs ts → vs.length = ts.length
 | vs, [], h => by unfold Reps at h; subst h; rfl
 | vs, t :: ts, h => by
   unfold Reps at h
   obtain ⟨v, r, rfl, _, h2⟩ := h
   rw [List.length_cons, List.length_cons, Reps.length h2]
theorem Reps.get : ∀ {vs : List V} {ts : List T} {i : Nat} {t : T}, Reps K H vs ts → ts[i]? = some t → ∃ v, vs[i]? = some v ∧ Rep K H v t
 | _, [], _, _, _, e => by simp at e
 | vs, t :: ts, 0, u, h, e => by
   unfold Reps at h
   obtain ⟨v, r, rfl, h1, _⟩ := h
   simp at e; subst e
   exact ⟨v, rfl, h1⟩
 | vs, t :: ts, i + 1, u, h, e => by
   unfold Reps at h
   obtain ⟨v, r, rfl, _, h2⟩ := h
   obtain ⟨w, q1, q2⟩ := Reps.get (i := i) h2 (by simpa using e)
   exact ⟨w, by simpa using q1, q2⟩
theorem Reps.append : ∀ {vs : List V} {ts : List T} {ws : List V} {us : List T}, Reps K H vs ts → Reps K H ws us → Reps K H (vs ++ ws) (ts ++ us)
 | vs, [], _, _, h, g => by unfold Reps at h; subst h; exact g
 | vs, t :: ts, _, _, h, g => by
   unfold Reps at h
   obtain ⟨v, r, rfl, h1, h2⟩ := h
   exact .cons h1 (Reps.append h2 g)
theorem Reps.set {v : V} {t : T} (g : Rep K H v t) : ∀ {vs : List V} {ts : List T} (n : Nat), Reps K H vs ts → Reps K H (vs.set n v) (ts.set n t)
 | vs, [], n, h => by unfold Reps at h; subst h; exact .nil
 | vs, u :: ts, 0, h => by
   unfold Reps at h
   obtain ⟨v, r, rfl, h1, h2⟩ := h
   exact .cons g h2
 | vs, u :: ts, n + 1, h => by
   unfold Reps at h
   obtain ⟨v, r, rfl, h1, h2⟩ := h
   exact .cons h1 (Reps.set g n h2)
theorem Reps.ints : ∀ {vs : List V} {ns : List Int}, Reps K H vs (ns.map T.int) → vs = ns.map V.int
 | vs, [], h => by unfold Reps at h; exact h
 | vs, n :: ns, h => by
   have h' : Reps K H vs (T.int n :: ns.map T.int) := h
   unfold Reps at h'
   obtain ⟨v, r, rfl, h1, h2⟩ := h'
   unfold Rep at h1
   subst h1
   rw [List.map_cons, Reps.ints h2]
theorem Reps.of_ints : ∀ (ns : List Int), Reps K H (ns.map V.int) (ns.map T.int)
 | [] => .nil
 | n :: ns => .cons (by unfold Rep; rfl) (Reps.of_ints ns)
end
inductive MO where
 /-- a list that may be written -/
 | lst (ts : List T)
 /-- a dict that may be written: keys whole numbers or texts -/
 | dk (kvs : List (Key × T))
 /-- the same, keys tuples of such -/
 | dt (kvs : List (List Key × T))
 /-- the same, walked: it may not be written any more -/
 | fz (kvs : List (List Key × T))
 /-- a dict with keys whole numbers or texts that may not be written any more (a walk may go over it) -/
 | fk (kvs : List (Key × T))
 /-- an object of an own class, its fields -/
 | ob (C : Addr) (fs : List (Str × T))
noncomputable abbrev MH := Addr → Option MO
noncomputable def updM (M : MH) (a : Addr) (o : MO) : MH := fun b => if b = a then some o else M b
theorem a0d {M : MH} {a : Addr} {o : MO} : updM M a o a = some o := if_pos rfl
theorem a0o {M : MH} {a b : Addr} {o : MO} (h : b ≠ a) : updM M a o b = M b := if_neg h
noncomputable def Sub (M M' : MH) : Prop := ∀ a o, M a = some o → M' a = some o
theorem Sub.refl {M : MH} : Sub M M := fun _ _ h => h
theorem Sub.trans {M M1 M2 : MH} (a : Sub M M1) (b : Sub M1 M2) : Sub M M2 := fun _ _ h => b _ _ (a _ _ h)
theorem Sub.new {M : MH} {p : Addr} {o : MO} (h : M p = none) : Sub M (updM M p o) := fun b u q => by
 rw [a0o]
 ·exact q
 ·rintro rfl
  rw [h] at q; cases q
noncomputable def KRep {κ : Type} (K : PySem.W.Frag) (H : Hp) : List (κ × V) → List (κ × T) → Prop
 | [], [] => True
 | p :: r, q :: u => p.1 = q.1 ∧ Rep K H p.2 q.2 ∧ KRep K H r u
 | _, _ => False
theorem KRep.kp {κ : Type} {K : PySem.W.Frag} {H H' : Hp} (k : Kp K H H') : ∀ {xs : List (κ × V)} {kvs : List (κ × T)}, KRep K H xs kvs → KRep K H' xs kvs
 | [], [], _ => trivial
 | p :: r, q :: u, h => ⟨h.1, Rep.kp k _ _ h.2.1, KRep.kp k h.2.2⟩
 | [], q :: u, h => h.elim
 | p :: r, [], h => h.elim
theorem KRep.length {κ : Type} {K : PySem.W.Frag} {H : Hp} : ∀ {xs : List (κ × V)} {kvs : List (κ × T)}, KRep K H xs kvs → xs.length = kvs.length
 | [], [], _ => rfl
 | p :: r, q :: u, h => by rw [List.length_cons, List.length_cons, KRep.length h.2.2]
 | [], q :: u, h => h.elim
 | p :: r, [], h => h.elim
noncomputable def MOk (K : PySem.W.Frag) (H : Hp) (a : Addr) : MO → Prop
 | .lst ts => ∃ xs, H a = some (.lst xs) ∧ Reps K H xs ts
 | .dk kvs => ∃ xs, H a = some (.dK xs) ∧ KRep K H xs kvs
 | .dt kvs => ∃ xs, H a = some (.dT xs) ∧ KRep K H xs kvs
 | .fz kvs => ∃ o xs, H a = some (.frz o (.dT xs)) ∧ KRep K H xs kvs
 | .fk kvs => ∃ xs, Rd H a (.dK xs) ∧ KRep K H xs kvs
 | .ob C fs => ∃ dx xs, H a = some (.ins C dx xs) ∧ KRep K H xs fs
noncomputable def HR (K : PySem.W.Frag) (H : Hp) (M : MH) : Prop := ∀ a o, M a = some o → MOk K H a o
theorem HR.sub {K : PySem.W.Frag} {H : Hp} {M M' : MH} (h : HR K H M') (s : Sub M M') : HR K H M := fun a o e => h a o (s a o e)
noncomputable abbrev En := List (Option T)
noncomputable def RhoR (K : PySem.W.Frag) (σ : St) (H : Hp) (ρ : En) : Prop := σ.length = ρ.length ∧ ∀ (i : Nat) (t : T), ρ[i]? = some (some t) → ∃ v, σ[i]? = some (some v) ∧ Rep K H v t
theorem RhoR.kp {K : PySem.W.Frag} {σ : St} {H H' : Hp} {ρ : En} (h : RhoR K σ H ρ) (k : Kp K H H') : RhoR K σ H' ρ := ⟨h.1, fun i t e => let ⟨v, a, b⟩ := h.2 i t e; ⟨v, a, Rep.kp k _ _ b⟩⟩
theorem RhoR.set {K : PySem.W.Frag} {σ : St} {H : Hp} {ρ : En} {v : V} {t : T} (h : RhoR K σ H ρ) (i : Nat) (r : Rep K H v t) : RhoR K (σ.set i (some v)) H (ρ.set i (some t)) := by
 refine ⟨by rw [List.length_set, List.length_set, h.1], fun j u e => ?_⟩
 by_cases hj : i = j
 ·subst hj
  have hi : i < ρ.length := by
   have := (List.getElem?_eq_some_iff.mp e).1
   rwa [List.length_set] at this
  rw [List.getElem?_set_self hi] at e
  cases e
  exact ⟨v, List.getElem?_set_self (show i < List.length σ by rw [h.1]; exact hi), r⟩
 ·rw [List.getElem?_set_ne hj] at e
  rw [List.getElem?_set_ne hj]
  exact h.2 j u e
noncomputable abbrev VK3 := T → MH → Prop
noncomputable abbrev TE3 := En → MH → VK3 → Prop
noncomputable abbrev TT3 := En → MH → (Bool → MH → Prop) → Prop
noncomputable abbrev TA3 := En → MH → (List T → MH → Prop) → Prop
structure Ends3 where
 nx : En → MH → Prop
 rt : VK3
 bk : En → MH → Prop := fun _ _ => False
 ct : En → MH → Prop := fun _ _ => False
noncomputable abbrev TS3 := Ends3 → En → MH → Prop
noncomputable def EndE (K : PySem.W.Frag) (H : Hp) (Q : VK3) (Q2 : VK) : Prop := ∀ t v M' H', Kp K H H' → HR K H' M' → Rep K H' v t → Q t M' → Q2 v H'
theorem EndE.kp {K : PySem.W.Frag} {H H' : Hp} {Q : VK3} {Q2 : VK} (h : EndE K H Q Q2) (k : Kp K H H') : EndE K H' Q Q2 := fun t v M' H1 k1 => h t v M' H1 (k.trans k1)
noncomputable def bE (K : PySem.W.Frag) (ρ : En) (M : MH) (Q : VK3) : TE := fun σ H Q2 => RhoR K σ H ρ ∧ HR K H M ∧ EndE K H Q Q2
noncomputable def HE (X : Cx) (e : Expr) (t : TE3) : Prop := ∀ ρ M Q, t ρ M Q → PE X e (bE X.K ρ M Q)
noncomputable def EndT (K : PySem.W.Frag) (H : Hp) (Q : Bool → MH → Prop) (Q2 : Bool → Hp → Prop) : Prop := ∀ b M' H', Kp K H H' → HR K H' M' → Q b M' → Q2 b H'
noncomputable def bT (K : PySem.W.Frag) (ρ : En) (M : MH) (Q : Bool → MH → Prop) : TT := fun σ H Q2 => RhoR K σ H ρ ∧ HR K H M ∧ EndT K H Q Q2
noncomputable def HT (X : Cx) (e : Expr) (t : TT3) : Prop := ∀ ρ M Q, t ρ M Q → PT X e (bT X.K ρ M Q)
noncomputable def EndA (K : PySem.W.Frag) (H : Hp) (Q : List T → MH → Prop) (Q2 : List V → Hp → Prop) : Prop := ∀ ts vs M' H', Kp K H H' → HR K H' M' → Reps K H' vs ts → Q ts M' → Q2 vs H'
noncomputable def bA (K : PySem.W.Frag) (ρ : En) (M : MH) (Q : List T → MH → Prop) : TA := fun σ H Q2 => RhoR K σ H ρ ∧ HR K H M ∧ EndA K H Q Q2
noncomputable def HA (X : Cx) (es : List Expr) (t : TA3) : Prop := ∀ ρ M Q, t ρ M Q → PA X es (bA X.K ρ M Q)
structure EndS (K : PySem.W.Frag) (H : Hp) (D : Ends3) (D2 : Ends) : Prop where
 nx : ∀ ρ' M' σ' H', Kp K H H' → RhoR K σ' H' ρ' → HR K H' M' → D.nx ρ' M' → D2.nx σ' H'
 rt : EndE K H D.rt D2.rt
 bk : ∀ ρ' M' σ' H', Kp K H H' → RhoR K σ' H' ρ' → HR K H' M' → D.bk ρ' M' → D2.bk σ' H'
 ct : ∀ ρ' M' σ' H', Kp K H H' → RhoR K σ' H' ρ' → HR K H' M' → D.ct ρ' M' → D2.ct σ' H'
theorem EndS.kp {K : PySem.W.Frag} {H H' : Hp} {D : Ends3} {D2 : Ends} (h : EndS K H D D2) (k : Kp K H H') : EndS K H' D D2 :=
 ⟨fun a b c d k1 => h.nx a b c d (k.trans k1), h.rt.kp k, fun a b c d k1 => h.bk a b c d (k.trans k1), fun a b c d k1 => h.ct a b c d (k.trans k1)⟩
noncomputable def bS (K : PySem.W.Frag) (D : Ends3) (ρ : En) (M : MH) : TS := fun D2 σ H => RhoR K σ H ρ ∧ HR K H M ∧ EndS K H D D2
noncomputable def HS (X : Cx) (st : Stmt) (t : TS3) : Prop := ∀ D ρ M, t D ρ M → PS X st (bS X.K D ρ M)
noncomputable def HSs (X : Cx) (st : List Stmt) (t : TS3) : Prop := ∀ D ρ M, t D ρ M → PSs X st (bS X.K D ρ M)
noncomputable def dE (K : PySem.W.Frag) (ρ : En) (t : TE3) : TE := fun σ H Q2 => ∃ M Q, t ρ M Q ∧ bE K ρ M Q σ H Q2
noncomputable def dT (K : PySem.W.Frag) (ρ : En) (t : TT3) : TT := fun σ H Q2 => ∃ M Q, t ρ M Q ∧ bT K ρ M Q σ H Q2
noncomputable def dA (K : PySem.W.Frag) (ρ : En) (t : TA3) : TA := fun σ H Q2 => ∃ M Q, t ρ M Q ∧ bA K ρ M Q σ H Q2
noncomputable def dS (K : PySem.W.Frag) (t : TS3) : TS := fun D2 σ H => ∃ D ρ M, t D ρ M ∧ bS K D ρ M D2 σ H
section
variable {X : Cx} {e : Expr} {es : List Expr} {st : Stmt} {sts : List Stmt} {ρ : En}
theorem HE.d {t : TE3} (h : HE X e t) : PE X e (dE X.K ρ t) := fun pins s σ H Q I ⟨M, Q3, q, b⟩ => h ρ M Q3 q pins s σ H Q I b
theorem HT.d {t : TT3} (h : HT X e t) : PT X e (dT X.K ρ t) := fun pins s σ H Q I ⟨M, Q3, q, b⟩ => h ρ M Q3 q pins s σ H Q I b
theorem HA.d {t : TA3} (h : HA X es t) : PA X es (dA X.K ρ t) := fun pos pins s σ H Q I ⟨M, Q3, q, b⟩ => h ρ M Q3 q pos pins s σ H Q I b
theorem HS.d {t : TS3} (h : HS X st t) : PS X st (dS X.K t) := fun pins s σ H D I ⟨D3, ρ, M, q, b⟩ => h D3 ρ M q pins s σ H D I b
theorem HSs.d {t : TS3} (h : HSs X sts t) : PSs X sts (dS X.K t) := fun pins s σ H D I ⟨D3, ρ, M, q, b⟩ => h D3 ρ M q pins s σ H D I b
end
mutual
noncomputable def eqT : T → T → Bool
 | .non, .non => true
 | .bl a, .bl b => a == b
 | .bl a, .int b => (if a then 1 else 0) == b
 | .int a, .bl b => a == (if b then 1 else 0)
 | .int a, .int b => a == b
 | .str a, .str b => a == b
 | .tup a, .tup b => eqTs a b
 | _, _ => false
noncomputable def eqTs : List T → List T → Bool
 | [], [] => true
 | x :: xs, y :: ys => eqT x y && eqTs xs ys
 | _, _ => false
end
mutual
noncomputable def a0v : T → Bool
 | .adr _ => false
 | .rd _ => false
 | .dic _ _ => false
 | .tup ts => a1B ts
 | _ => true
noncomputable def a1B : List T → Bool
 | [] => true
 | t :: ts => a0v t && a1B ts
end
mutual
noncomputable def depT : T → Nat
 | .tup ts => a4b ts + 1
 | _ => 0
noncomputable def a4b : List T → Nat
 | [] => 0
 | t :: ts => max (depT t) (a4b ts)
end
theorem a2X : ∀ {ts : List T} {j : Nat} {t : T}, a1B ts = true → ts[j]? = some t → a0v t = true
 | [], _, _, _, e => by simp at e
 | x :: ts, 0, t, h, e => by simp at e; subst e; unfold a1B at h; exact (Bool.and_eq_true _ _ ▸ h).1
 | x :: ts, j + 1, t, h, e => by
   unfold a1B at h
   exact a2X (j := j) (Bool.and_eq_true _ _ ▸ h).2 (by simpa using e)
theorem a5o : ∀ {ts : List T} {j : Nat} {t : T}, ts[j]? = some t → depT t ≤ a4b ts
 | [], _, _, e => by simp at e
 | x :: ts, 0, t, e => by simp at e; subst e; unfold a4b; exact Nat.le_max_left _ _
 | x :: ts, j + 1, t, e => by
   have := a5o (ts := ts) (j := j) (t := t) (by simpa using e)
   unfold a4b; exact Nat.le_trans this (Nat.le_max_right _ _)
noncomputable def eqJ (xs ys : List T) (j : Nat) : Bool := match xs[j]?, ys[j]? with
 | some x, some y => eqT x y
 | _, _ => true
theorem a3N : ∀ (xs ys : List T), (((List.range (min xs.length ys.length)).all (eqJ xs ys)) && (xs.length == ys.length)) = eqTs xs ys
 | [], [] => by unfold eqTs; rfl
 | [], y :: ys => by unfold eqTs; simp
 | x :: xs, [] => by unfold eqTs; simp
 | x :: xs, y :: ys => by
   unfold eqTs
   rw [← a3N xs ys]
   rw [List.length_cons, List.length_cons, Nat.succ_min_succ, List.range_succ_eq_map, List.all_cons, List.all_map]
   have e1 : eqJ (x :: xs) (y :: ys) 0 = eqT x y := rfl
   have e2 : (eqJ (x :: xs) (y :: ys)) ∘ Nat.succ = eqJ xs ys := by
    funext j; simp [eqJ]
   rw [e1, e2, Bool.and_assoc]
   congr 2
   simp
theorem a9F : ∀ {xs ys : List T}, eqTs xs ys = true → xs.length = ys.length
 | [], [], _ => rfl
 | [], y :: ys, h => by unfold eqTs at h; cases h
 | x :: xs, [], h => by unfold eqTs at h; cases h
 | x :: xs, y :: ys, h => by
   unfold eqTs at h
   rw [Bool.and_eq_true] at h
   rw [List.length_cons, List.length_cons, a9F h.2]
mutual
theorem b3F : ∀ (x : T), a0v x = true → eqT x x = true
 | .non, _ => rfl
 | .bl b, _ => by simp [eqT]
 | .int i, _ => by simp [eqT]
 | .str x, _ => by simp [eqT]
 | .adr a, h => by unfold a0v at h; cases h
 | .rd a, h => by unfold a0v at h; cases h
 | .dic ks a, h => by unfold a0v at h; cases h
 | .tup ts, h => by unfold a0v at h; unfold eqT; exact a5n ts h
theorem a5n : ∀ (xs : List T), a1B xs = true → eqTs xs xs = true
 | [], _ => by unfold eqTs; rfl
 | x :: xs, h => by
   unfold a1B at h
   rw [Bool.and_eq_true] at h
   unfold eqTs
   rw [b3F x h.1, a5n xs h.2]
   rfl
end
section
variable {X : Cx} {pins : List (Addr × Obj)} {σ : St} {H : Hp} {s : Shared}
theorem b4H (I : Inv X pins σ H s) : ∀ (x y : T) (v : V), a0v x = true → a0v y = true → Rep X.K H v x → Rep X.K H v y → eqT x y = true := by
 have key : ∀ n (x y : T) (v : V), depT x ≤ n → a0v x = true → a0v y = true → Rep X.K H v x → Rep X.K H v y → eqT x y = true := by
  intro n
  induction n with
  | zero =>
    intro x y v hd px py rx ry
    cases x with
    | tup ts => unfold depT at hd; lia
    | adr a => unfold a0v at px; cases px
    | rd a => unfold a0v at px; cases px
    | dic ks a => unfold a0v at px; cases px
    | _ => unfold Rep at rx; subst rx; cases y <;> unfold Rep at ry <;> first | (obtain ⟨_, _, e, _⟩ := ry; cases e; done) | (unfold a0v at py; cases py; done) | (cases ry <;> simp [eqT])
  | succ n ih =>
    intro x y v hd px py rx ry
    cases x with
    | adr a => unfold a0v at px; cases px
    | rd a => unfold a0v at px; cases px
    | dic ks a => unfold a0v at px; cases px
    | tup ts =>
      unfold Rep at rx
      obtain ⟨a, xs, rfl, h1, h2⟩ := rx
      cases y with
      | adr a => unfold a0v at py; cases py
      | rd a => unfold a0v at py; cases py
      | dic ks a => unfold a0v at py; cases py
      | tup us =>
        unfold Rep at ry
        obtain ⟨a', ys, e, g1, g2⟩ := ry
        cases e
        obtain rfl := I.tuple_inj h1 g1
        unfold a0v at px py
        unfold depT at hd
        unfold eqT
        have hl := h2.length
        have hl2 := g2.length
        rw [← a3N]
        rw [← hl, ← hl2]
        simp only [Nat.min_self, beq_self_eq_true, Bool.and_true, List.all_eq_true, List.mem_range]
        intro j hj
        have e1 : ts[j]? = some ts[j] := List.getElem?_eq_getElem (by lia)
        have e2 : us[j]? = some us[j] := List.getElem?_eq_getElem (by lia)
        obtain ⟨v1, q1, r1⟩ := h2.get e1
        obtain ⟨v2, q2, r2⟩ := g2.get e2
        rw [q1] at q2; cases q2
        unfold eqJ
        rw [e1, e2]
        have := a5o e1
        exact ih _ _ _ (by lia) (a2X px e1) (a2X py e2) r1 r2
      | _ => unfold Rep at ry; cases ry
    | _ => unfold Rep at rx; subst rx; cases y <;> unfold Rep at ry <;> first | (obtain ⟨_, _, e, _⟩ := ry; cases e; done) | (unfold a0v at py; cases py; done) | (cases ry <;> simp [eqT])
 exact fun x y v => key (depT x) x y v (Nat.le_refl _)
open SeqAt in
theorem b2c {A : Around} (x y : T) (v u : V) (a b : Value) (px : a0v x = true) (py : a0v y = true) (rx : Rep X.K H v x) (ry : Rep X.K H u y) (ra : RelV v a) (rb : RelV u b) (nx : ∀ ts, x ≠ .tup ts) (ny : ∀ ts, y ≠ .tup ts) :
  SeqAt.EqAt A s a b (eqT x y) ∧ SeqAt.RcAt A s a b (eqT x y) ∧ SeqAt.RcNeAt A s a b (!(eqT x y)) := by
 cases x with
 | tup ts => exact absurd rfl (nx ts)
 | adr p => unfold a0v at px; cases px
 | rd p => unfold a0v at px; cases px
 | dic ks p => unfold a0v at px; cases px
 | non =>
   unfold Rep at rx; subst rx
   cases ra
   cases y with
   | tup ts => exact absurd rfl (ny ts)
   | adr p => unfold a0v at py; cases py
   | rd p => unfold a0v at py; cases py
   | dic ks p => unfold a0v at py; cases py
   | non =>
     unfold Rep at ry; subst ry
     cases rb
     have e : eqT .non .non = true := rfl
     rw [e]
     exact ⟨EqAt.same _, RcAt.none_none, RcNeAt.none_none⟩
   | bl c0 =>
     unfold Rep at ry; subst ry
     cases rb
     have e : eqT .non (.bl c0) = false := rfl
     rw [e]
     exact ⟨EqAt.none_bool _, RcAt.none_bool _, RcNeAt.none_bool _⟩
   | int c0 =>
     unfold Rep at ry; subst ry
     obtain ⟨t_rb, rfl⟩ := rb
     have e : eqT .non (.int c0) = false := rfl
     rw [e]
     exact ⟨EqAt.none_int _ _, RcAt.none_int _ _, RcNeAt.none_int _ _⟩
   | str c0 =>
     unfold Rep at ry; subst ry
     obtain ⟨t_rb, rfl⟩ := rb
     have e : eqT .non (.str c0) = false := rfl
     rw [e]
     exact ⟨EqAt.none_str _ _, RcAt.none_str _ _, RcNeAt.none_str _ _⟩
 | bl b0 =>
   unfold Rep at rx; subst rx
   cases ra
   cases y with
   | tup ts => exact absurd rfl (ny ts)
   | adr p => unfold a0v at py; cases py
   | rd p => unfold a0v at py; cases py
   | dic ks p => unfold a0v at py; cases py
   | non =>
     unfold Rep at ry; subst ry
     cases rb
     have e : eqT (.bl b0) .non = false := rfl
     rw [e]
     exact ⟨EqAt.bool_none _, RcAt.bool_none _, RcNeAt.bool_none _⟩
   | bl c0 =>
     unfold Rep at ry; subst ry
     cases rb
     have e : eqT (.bl b0) (.bl c0) = (b0 == c0) := rfl
     rw [e]
     exact ⟨EqAt.bool_bool _ _, RcAt.bool_bool _ _, RcNeAt.bool_bool _ _⟩
   | int c0 =>
     unfold Rep at ry; subst ry
     obtain ⟨t_rb, rfl⟩ := rb
     have e : eqT (.bl b0) (.int c0) = ((if b0 then 1 else 0) == c0) := rfl
     rw [e]
     exact ⟨EqAt.bool_int _ _ _, RcAt.bool_int _ _ _, RcNeAt.bool_int _ _ _⟩
   | str c0 =>
     unfold Rep at ry; subst ry
     obtain ⟨t_rb, rfl⟩ := rb
     have e : eqT (.bl b0) (.str c0) = false := rfl
     rw [e]
     exact ⟨EqAt.bool_str _ _ _, RcAt.bool_str _ _ _, RcNeAt.bool_str _ _ _⟩
 | int b0 =>
   unfold Rep at rx; subst rx
   obtain ⟨t_ra, rfl⟩ := ra
   cases y with
   | tup ts => exact absurd rfl (ny ts)
   | adr p => unfold a0v at py; cases py
   | rd p => unfold a0v at py; cases py
   | dic ks p => unfold a0v at py; cases py
   | non =>
     unfold Rep at ry; subst ry
     cases rb
     have e : eqT (.int b0) .non = false := rfl
     rw [e]
     exact ⟨EqAt.int_none _ _, RcAt.int_none _ _, RcNeAt.int_none _ _⟩
   | bl c0 =>
     unfold Rep at ry; subst ry
     cases rb
     have e : eqT (.int b0) (.bl c0) = (b0 == (if c0 then 1 else 0)) := rfl
     rw [e]
     exact ⟨EqAt.int_bool _ _ _, RcAt.int_bool _ _ _, RcNeAt.int_bool _ _ _⟩
   | int c0 =>
     unfold Rep at ry; subst ry
     obtain ⟨t_rb, rfl⟩ := rb
     have e : eqT (.int b0) (.int c0) = (b0 == c0) := rfl
     rw [e]
     exact ⟨EqAt.int_int _ _ _ _, RcAt.int_int _ _ _ _, RcNeAt.int_int _ _ _ _⟩
   | str c0 =>
     unfold Rep at ry; subst ry
     obtain ⟨t_rb, rfl⟩ := rb
     have e : eqT (.int b0) (.str c0) = false := rfl
     rw [e]
     exact ⟨EqAt.int_str _ _ _ _, RcAt.int_str _ _ _ _, RcNeAt.int_str _ _ _ _⟩
 | str b0 =>
   unfold Rep at rx; subst rx
   obtain ⟨t_ra, rfl⟩ := ra
   cases y with
   | tup ts => exact absurd rfl (ny ts)
   | adr p => unfold a0v at py; cases py
   | rd p => unfold a0v at py; cases py
   | dic ks p => unfold a0v at py; cases py
   | non =>
     unfold Rep at ry; subst ry
     cases rb
     have e : eqT (.str b0) .non = false := rfl
     rw [e]
     exact ⟨EqAt.str_none _ _, RcAt.str_none _ _, RcNeAt.str_none _ _⟩
   | bl c0 =>
     unfold Rep at ry; subst ry
     cases rb
     have e : eqT (.str b0) (.bl c0) = false := rfl
     rw [e]
     exact ⟨EqAt.str_bool _ _ _, RcAt.str_bool _ _ _, RcNeAt.str_bool _ _ _⟩
   | int c0 =>
     unfold Rep at ry; subst ry
     obtain ⟨t_rb, rfl⟩ := rb
     have e : eqT (.str b0) (.int c0) = false := rfl
     rw [e]
     exact ⟨EqAt.str_int _ _ _ _, RcAt.str_int _ _ _ _, RcNeAt.str_int _ _ _ _⟩
   | str c0 =>
     unfold Rep at ry; subst ry
     obtain ⟨t_rb, rfl⟩ := rb
     have e : eqT (.str b0) (.str c0) = (b0 == c0) := rfl
     rw [e]
     exact ⟨EqAt.str_str _ _ _ _, RcAt.str_str _ _ _ _, RcNeAt.str_str _ _ _ _⟩
theorem b8H {x : T} (h : ∀ ts, x ≠ .tup ts) : depT x = 0 := by
 cases x with
 | tup ts => exact absurd rfl (h ts)
 | _ => rfl
open SeqAt in
/-- a tuple against what is none -/
theorem b0v {A : Around} {p : Addr} {its : Array Value} (ht : s.heap.IsTuple p its) (hu : A.units < cLine) (x : T) (us : List T) (v : V) (a : Value) (px : a0v x = true) (rx : Rep X.K H v x) (ra : RelV v a) (nx : ∀ ts, x ≠ .tup ts) :
  SeqAt.EqAt A s a (.ref p) (eqT x (.tup us)) ∧ SeqAt.RcAt A s a (.ref p) (eqT x (.tup us)) ∧ SeqAt.RcNeAt A s a (.ref p) (!(eqT x (.tup us))) := by
 cases x with
 | tup ts => exact absurd rfl (nx ts)
 | adr q => unfold a0v at px; cases px
 | rd q => unfold a0v at px; cases px
 | dic ks q => unfold a0v at px; cases px
 | non =>
   unfold Rep at rx; subst rx; cases ra
   have e : eqT .non (.tup us) = false := rfl
   rw [e]; exact ⟨.none_tuple ht hu, .none_tuple ht hu, .none_tuple ht hu⟩
 | bl b0 =>
   unfold Rep at rx; subst rx; cases ra
   have e : eqT (.bl b0) (.tup us) = false := rfl
   rw [e]; exact ⟨.bool_tuple _ ht hu, .bool_tuple _ ht hu, .bool_tuple _ ht hu⟩
 | int b0 =>
   unfold Rep at rx; subst rx; obtain ⟨t, rfl⟩ := ra
   have e : eqT (.int b0) (.tup us) = false := rfl
   rw [e]; exact ⟨.int_tuple _ _ ht hu, .int_tuple _ _ ht hu, .int_tuple _ _ ht hu⟩
 | str b0 =>
   unfold Rep at rx; subst rx; obtain ⟨t, rfl⟩ := ra
   have e : eqT (.str b0) (.tup us) = false := rfl
   rw [e]; exact ⟨.str_tuple _ _ ht hu, .str_tuple _ _ ht hu, .str_tuple _ _ ht hu⟩
open SeqAt in
theorem b0w {A : Around} {p : Addr} {its : Array Value} (ht : s.heap.IsTuple p its) (hu : A.units < cLine) (x : T) (us : List T) (v : V) (a : Value) (px : a0v x = true) (rx : Rep X.K H v x) (ra : RelV v a) (nx : ∀ ts, x ≠ .tup ts) :
  SeqAt.EqAt A s (.ref p) a (eqT (.tup us) x) ∧ SeqAt.RcAt A s (.ref p) a (eqT (.tup us) x) ∧ SeqAt.RcNeAt A s (.ref p) a (!(eqT (.tup us) x)) := by
 cases x with
 | tup ts => exact absurd rfl (nx ts)
 | adr q => unfold a0v at px; cases px
 | rd q => unfold a0v at px; cases px
 | dic ks q => unfold a0v at px; cases px
 | non =>
   unfold Rep at rx; subst rx; cases ra
   have e : eqT (.tup us) .non = false := rfl
   rw [e]; exact ⟨.tuple_none ht hu, .tuple_none ht hu, .tuple_none ht hu⟩
 | bl b0 =>
   unfold Rep at rx; subst rx; cases ra
   have e : eqT (.tup us) (.bl b0) = false := rfl
   rw [e]; exact ⟨.tuple_bool _ ht hu, .tuple_bool _ ht hu, .tuple_bool _ ht hu⟩
 | int b0 =>
   unfold Rep at rx; subst rx; obtain ⟨t, rfl⟩ := ra
   have e : eqT (.tup us) (.int b0) = false := rfl
   rw [e]; exact ⟨.tuple_int _ _ ht hu, .tuple_int _ _ ht hu, .tuple_int _ _ ht hu⟩
 | str b0 =>
   unfold Rep at rx; subst rx; obtain ⟨t, rfl⟩ := ra
   have e : eqT (.tup us) (.str b0) = false := rfl
   rw [e]; exact ⟨.tuple_str _ _ ht hu, .tuple_str _ _ ht hu, .tuple_str _ _ ht hu⟩
theorem a8X (x : T) : (∃ ts, x = .tup ts) ∨ ∀ ts, x ≠ .tup ts := by
 cases x with
 | tup ts => exact .inl ⟨ts, rfl⟩
 | _ => exact .inr fun ts e => by cases e
theorem a9C {A : Around} {n : Nat} {ts us : List T} {xs ys : List V} {its its2 : List Value} (px : a1B ts = true) (py : a1B us = true) (hd : a4b ts ≤ n) (h2 : Reps X.K H xs ts) (g2 : Reps X.K H ys us) (r1 : Vals xs its) (r2 : Vals ys its2)
  (ih : ∀ (x y : T) (v u : V) (a b : Value), depT x ≤ n → a0v x = true → a0v y = true → Rep X.K H v x → Rep X.K H u y → RelV v a → RelV u b → SeqAt.EqAt A s a b (eqT x y)) (j : Nat) (hj1 : j < its.toArray.size) (hj2 : j < its2.toArray.size) :
  SeqAt.EqAt A s its.toArray[j] its2.toArray[j] (eqJ ts us j) := by
 have l1 := h2.length
 have l2 := g2.length
 have m1 := r1.length
 have m2 := r2.length
 have hj1' : j < its.length := by simpa using hj1
 have hj2' : j < its2.length := by simpa using hj2
 have e1 : ts[j]? = some (ts[j]'(by lia)) := List.getElem?_eq_getElem (by lia)
 have e2 : us[j]? = some (us[j]'(by lia)) := List.getElem?_eq_getElem (by lia)
 obtain ⟨v1, a1, b1⟩ := h2.get e1
 obtain ⟨v2, a2, b2⟩ := g2.get e2
 obtain ⟨w1, c1, d1⟩ := r1.get a1
 obtain ⟨w2, c2, d2⟩ := r2.get a2
 have f1 : its.toArray[j] = w1 := by
  have : its[j]? = some (its[j]'hj1') := List.getElem?_eq_getElem hj1'
  rw [c1] at this
  simpa using (Option.some.inj this).symm
 have f2 : its2.toArray[j] = w2 := by
  have : its2[j]? = some (its2[j]'hj2') := List.getElem?_eq_getElem hj2'
  rw [c2] at this
  simpa using (Option.some.inj this).symm
 have e3 : eqJ ts us j = eqT (ts[j]'(by lia)) (us[j]'(by lia)) := by unfold eqJ; rw [e1, e2]
 rw [f1, f2, e3]
 have := a5o e1
 exact ih _ _ v1 v2 w1 w2 (by lia) (a2X px e1) (a2X py e2) b1 b2 d1 d2
open SeqAt in
/-- == (by identity first), ==, != of two values, by their trees -/
theorem b2d (I : Inv X pins σ H s) : ∀ n (A : Around) (x y : T) (v u : V) (a b : Value), depT x ≤ n → A.units + n + 1 < cLine → a0v x = true → a0v y = true → Rep X.K H v x → Rep X.K H u y → RelV v a → RelV u b →
  SeqAt.EqAt A s a b (eqT x y) ∧ SeqAt.RcAt A s a b (eqT x y) ∧ SeqAt.RcNeAt A s a b (!(eqT x y)) := by
 intro n
 induction n with
 | zero =>
   intro A x y v u a b hd hu px py rx ry ra rb
   rcases a8X x with ⟨ts, rfl⟩ | nx
   ·unfold depT at hd; lia
   ·rcases a8X y with ⟨us, rfl⟩ | ny
    ·unfold Rep at ry
     obtain ⟨p, ys, rfl, g1, g2⟩ := ry
     obtain ⟨its, r', ht, _⟩ := I.tuple g1
     have ht' : s.heap.IsTuple p its.toArray := ht
     cases rb
     exact b0v ht' (by lia) x us v a px rx ra nx
    ·exact b2c x y v u a b px py rx ry ra rb nx ny
 | succ n ih =>
   intro A x y v u a b hd hu px py rx ry ra rb
   have hu' : A.units < cLine := by lia
   rcases a8X x with ⟨ts, rfl⟩ | nx
   ·have rx' := rx
    unfold Rep at rx
    obtain ⟨p, xs, rfl, h1, h2⟩ := rx
    cases ra
    obtain ⟨its, r1, ht, _⟩ := I.tuple h1
    have ht' : s.heap.IsTuple p its.toArray := ht
    rcases a8X y with ⟨us, rfl⟩ | ny
    ·have ry' := ry
     unfold Rep at ry
     obtain ⟨q, ys, rfl, g1, g2⟩ := ry
     cases rb
     obtain ⟨its2, r2, ht2, _⟩ := I.tuple g1
     have ht2' : s.heap.IsTuple q its2.toArray := ht2
     have px' := px
     have py' := py
     unfold a0v at px py
     unfold depT at hd
     have he := a9C (A := A.in1) (s := s) (n := n) px py (by lia) h2 g2 r1 r2 fun x y v u a b hx px py rx ry ra rb => (ih A.in1 x y v u a b hx (by show A.units + 1 + n + 1 < cLine; lia) px py rx ry ra rb).1
     have ee : ((List.range (min its.toArray.size its2.toArray.size)).all (eqJ ts us) && its.toArray.size == its2.toArray.size) = eqT (.tup ts) (.tup us) := by
      have l1 := h2.length
      have l2 := g2.length
      have m1 := r1.length
      have m2 := r2.length
      unfold eqT
      rw [← a3N, List.size_toArray, List.size_toArray, ← m1, ← m2, l1, l2]
     have rc := RcAt.tuples (A := A) (e := eqJ ts us) ht' ht2' hu' he
     have rn := RcNeAt.tuples (A := A) (e := eqJ ts us) ht' ht2' hu' he
     rw [ee] at rc rn
     refine ⟨?_, rc, rn⟩
     by_cases hpq : p = q
     ·subst hpq
      have e : eqT (.tup ts) (.tup us) = true := b4H I (.tup ts) (.tup us) (.ref p) px' py' rx' ry'
      rw [e]; exact .same _
     ·exact .of_refs hpq rc
    ·exact b0w ht' hu' y ts u b py ry rb ny
   ·exact ih A x y v u a b (by rw [b8H nx]; exact Nat.zero_le _) (by lia) px py rx ry ra rb
end
noncomputable abbrev R3 := T → T → MH → VK3 → Prop
noncomputable def dR (K : PySem.W.Frag) (r : R3) : R2 := fun v u H Q2 => ∃ x y M Q, Rep K H v x ∧ Rep K H u y ∧ HR K H M ∧ r x y M Q ∧ EndE K H Q Q2
noncomputable def dU (K : PySem.W.Frag) (r : T → MH → VK3 → Prop) : V → Hp → VK → Prop := fun v H Q2 => ∃ x M Q, Rep K H v x ∧ HR K H M ∧ r x M Q ∧ EndE K H Q Q2
noncomputable def dL (K : PySem.W.Frag) (r : List T → MH → VK3 → Prop) : List V → Hp → VK → Prop := fun vs H Q2 => ∃ xs M Q, Reps K H vs xs ∧ HR K H M ∧ r xs M Q ∧ EndE K H Q Q2
theorem Kp.new {K : PySem.W.Frag} {H : Hp} {p : Addr} {o : HO} (h : H p = none) : Kp K H (upd H p o) := by
 refine ⟨fun a xs q => ?_, fun a ob u q => by rw [a0n (a0l q h)]; exact q, fun a xs q => by rw [a0n (a0l q h)]; exact q⟩
 rcases q with (q | ⟨ob, q⟩) | q
 ·exact .inl (.inl (by rw [a0n (a0l q h)]; exact q))
 ·exact .inl (.inr ⟨ob, by rw [a0n (a0l q h)]; exact q⟩)
 ·exact .inr q
theorem Kp.lst {K : PySem.W.Frag} {H : Hp} {p : Addr} {xs ys : List V} (h : H p = some (.lst xs)) : Kp K H (upd H p (.lst ys)) := by
 have ne : ∀ {a : Addr} {o : HO}, H a = some o → o ≠ .lst xs → a ≠ p := fun {a o} q hn e => by
  subst e
  rw [h] at q; cases q; exact hn rfl
 refine ⟨fun a zs q => ?_, fun a ob u q => by rw [a0n (ne q (by intro z; cases z))]; exact q, fun a xs q => by rw [a0n (ne q (by intro z; cases z))]; exact q⟩
 rcases q with (q | ⟨ob, q⟩) | q
 ·exact .inl (.inl (by rw [a0n (ne q (by intro z; cases z))]; exact q))
 ·exact .inl (.inr ⟨ob, by rw [a0n (ne q (by intro z; cases z))]; exact q⟩)
 ·exact .inr q
theorem Kp.dict {K : PySem.W.Frag} {H : Hp} {p : Addr} {o u : HO} (h : H p = some o) (ho : (∃ kvs, o = .dK kvs) ∨ ∃ kvs, o = .dT kvs) : Kp K H (upd H p u) := by
 have ne : ∀ {a : Addr} {u : HO}, H a = some u → ((∃ xs, u = .tup xs) ∨ ∃ b x, u = .frz b x) → a ≠ p := fun {a u} q hn e => by
  subst e
  rw [h] at q; cases q
  rcases ho with ⟨_, rfl⟩ | ⟨_, rfl⟩ <;> rcases hn with ⟨_, z⟩ | ⟨_, _, z⟩ <;> cases z
 refine ⟨fun a zs q => ?_, fun a ob u q => by rw [a0n (ne q (.inr ⟨_, _, rfl⟩))]; exact q, fun a xs q => by rw [a0n (ne q (.inl ⟨_, rfl⟩))]; exact q⟩
 rcases q with (q | ⟨ob, q⟩) | q
 ·exact .inl (.inl (by rw [a0n (ne q (.inl ⟨_, rfl⟩))]; exact q))
 ·exact .inl (.inr ⟨ob, by rw [a0n (ne q (.inr ⟨_, _, rfl⟩))]; exact q⟩)
 ·exact .inr q
section
variable {K : PySem.W.Frag} {H : Hp} {M : MH}
noncomputable def Wr : HO → Prop
 | .lst _ => True
 | .dK _ => True
 | .dT _ => True
 | .frz _ _ => True
 | .ins _ _ _ => True
 | _ => False
theorem MOk.kp {H' : Hp} {a : Addr} {o : MO} (h : MOk K H a o) (k : Kp K H H') (ha : ∀ u, Wr u → H a = some u → H' a = some u) : MOk K H' a o := by
 cases o with
 | lst ts => obtain ⟨xs, e, r⟩ := h; exact ⟨xs, ha _ trivial e, Reps.kp k _ _ r⟩
 | dk kvs => obtain ⟨xs, e, r⟩ := h; exact ⟨xs, ha _ trivial e, r.kp k⟩
 | dt kvs => obtain ⟨xs, e, r⟩ := h; exact ⟨xs, ha _ trivial e, r.kp k⟩
 | fz kvs => obtain ⟨ob, xs, e, r⟩ := h; exact ⟨ob, xs, k.frz _ _ _ e, r.kp k⟩
 | fk kvs =>
   obtain ⟨xs, e, r⟩ := h
   rcases e with e | ⟨ob, e⟩
   ·exact ⟨xs, .inl (ha _ trivial e), r.kp k⟩
   ·exact ⟨xs, .inr ⟨ob, k.frz _ _ _ e⟩, r.kp k⟩
 | ob C fs => obtain ⟨dx, xs, e, r⟩ := h; exact ⟨dx, xs, ha _ trivial e, r.kp k⟩
theorem MOk.some {a : Addr} {o : MO} (h : MOk K H a o) : ∃ u, H a = Option.some u ∧ Wr u := by
 cases o with
 | lst ts => obtain ⟨xs, e, r⟩ := h; exact ⟨_, e, trivial⟩
 | dk kvs => obtain ⟨xs, e, r⟩ := h; exact ⟨_, e, trivial⟩
 | dt kvs => obtain ⟨xs, e, r⟩ := h; exact ⟨_, e, trivial⟩
 | fz kvs => obtain ⟨ob, xs, e, r⟩ := h; exact ⟨_, e, trivial⟩
 | fk kvs =>
   obtain ⟨xs, e, r⟩ := h
   rcases e with e | ⟨ob, e⟩
   ·exact ⟨_, e, trivial⟩
   ·exact ⟨_, e, trivial⟩
 | ob C fs => obtain ⟨dx, xs, e, r⟩ := h; exact ⟨_, e, trivial⟩
theorem HR.free {p : Addr} (h : HR K H M) (hp : H p = none) : M p = none := by
 cases q : M p with
 | none => rfl
 | some o =>
   obtain ⟨u, e, _⟩ := (h p o q).some
   rw [hp] at e; cases e
theorem HR.keep {p : Addr} {o : HO} (h : HR K H M) (hp : H p = none) : HR K (upd H p o) M := fun a u e =>
 (h a u e).kp (Kp.new hp) fun u _ q => by rw [a0n (a0l q hp)]; exact q
theorem HR.newL {p : Addr} {xs : List V} {ts : List T} (h : HR K H M) (hp : H p = none) (r : Reps K H xs ts) : HR K (upd H p (.lst xs)) (updM M p (.lst ts)) := fun a u e => by
 by_cases ha : a = p
 ·subst ha
  rw [a0d] at e; cases e
  exact ⟨xs, a0u, Reps.kp (Kp.new hp) _ _ r⟩
 ·rw [a0o ha] at e
  exact (h.keep hp) a u e
theorem HR.setL {p : Addr} {xs ys : List V} {us : List T} (h : HR K H M) (hp : H p = some (.lst xs)) (r : Reps K H ys us) : HR K (upd H p (.lst ys)) (updM M p (.lst us)) := fun a u e => by
 by_cases ha : a = p
 ·subst ha
  rw [a0d] at e; cases e
  exact ⟨ys, a0u, Reps.kp (Kp.lst hp) _ _ r⟩
 ·rw [a0o ha] at e
  exact (h a u e).kp (Kp.lst hp) fun u _ q => by rw [a0n ha]; exact q
theorem HR.newK {p : Addr} {xs : List (Key × V)} {kvs : List (Key × T)} (h : HR K H M) (hp : H p = none) (r : KRep K H xs kvs) : HR K (upd H p (.dK xs)) (updM M p (.dk kvs)) := fun a u e => by
 by_cases ha : a = p
 ·subst ha
  rw [a0d] at e; cases e
  exact ⟨xs, a0u, r.kp (Kp.new hp)⟩
 ·rw [a0o ha] at e
  exact (h.keep hp) a u e
theorem HR.newT {p : Addr} {xs : List (List Key × V)} {kvs : List (List Key × T)} (h : HR K H M) (hp : H p = none) (r : KRep K H xs kvs) : HR K (upd H p (.dT xs)) (updM M p (.dt kvs)) := fun a u e => by
 by_cases ha : a = p
 ·subst ha
  rw [a0d] at e; cases e
  exact ⟨xs, a0u, r.kp (Kp.new hp)⟩
 ·rw [a0o ha] at e
  exact (h.keep hp) a u e
theorem HR.setK {p : Addr} {o : HO} {xs : List (Key × V)} {kvs : List (Key × T)} (h : HR K H M) (hp : H p = some o) (ho : (∃ kvs, o = .dK kvs) ∨ ∃ kvs, o = .dT kvs) (r : KRep K H xs kvs) : HR K (upd H p (.dK xs)) (updM M p (.dk kvs)) := fun a u e => by
 by_cases ha : a = p
 ·subst ha
  rw [a0d] at e; cases e
  exact ⟨xs, a0u, r.kp (Kp.dict hp ho)⟩
 ·rw [a0o ha] at e
  exact (h a u e).kp (Kp.dict hp ho) fun u _ q => by rw [a0n ha]; exact q
theorem HR.setT {p : Addr} {o : HO} {xs : List (List Key × V)} {kvs : List (List Key × T)} (h : HR K H M) (hp : H p = some o) (ho : (∃ kvs, o = .dK kvs) ∨ ∃ kvs, o = .dT kvs) (r : KRep K H xs kvs) : HR K (upd H p (.dT xs)) (updM M p (.dt kvs)) := fun a u e => by
 by_cases ha : a = p
 ·subst ha
  rw [a0d] at e; cases e
  exact ⟨xs, a0u, r.kp (Kp.dict hp ho)⟩
 ·rw [a0o ha] at e
  exact (h a u e).kp (Kp.dict hp ho) fun u _ q => by rw [a0n ha]; exact q
end
noncomputable def OpR3 (X : Cx) (f : Value → Value → Sem Value) (r : R3) : Prop := OpR X f (dR X.K r)
noncomputable def UnR3 (X : Cx) (f : Value → Sem Value) (r : T → MH → VK3 → Prop) : Prop := UnR X f (dU X.K r)
noncomputable def a2R (X : Cx) (f : Value) (r : List T → MH → VK3 → Prop) : Prop := a4K X f (dL X.K r)
noncomputable def IxR3 (X : Cx) (r : R3) : Prop := IxR X (dR X.K r)
noncomputable def tOp3 (r : R3) (ta tb : TE3) : TE3 := fun ρ M Q => ta ρ M fun x M1 => tb ρ M1 fun y M2 => r x y M2 Q
noncomputable def tUn3 (r : T → MH → VK3 → Prop) (ta : TE3) : TE3 := fun ρ M Q => ta ρ M fun x M1 => r x M1 Q
noncomputable def b2L (i : Nat) : TE3 := fun ρ M Q => match ρ[i]? with
 | some (some t) => Q t M
 | _ => False
noncomputable def tK (t : T) : TE3 := fun _ M Q => Q t M
section
variable {X : Cx} {a b c e : Expr} {es : List Expr} {ta tb tc te : TE3} {pos : Pos}
theorem dOp {ρ : En} {M : MH} {Q : VK3} {r : R3} (h : tOp3 r ta tb ρ M Q) {σ : St} {H : Hp} {Q2 : VK} (b : bE X.K ρ M Q σ H Q2) : tOp (dR X.K r) (dE X.K ρ ta) (dE X.K ρ tb) σ H Q2 := by
 obtain ⟨hr, hh, en⟩ := b
 refine ⟨M, _, h, hr, hh, fun t v M1 H1 k1 h1 r1 q1 => ⟨M1, _, q1, hr.kp k1, h1, fun t2 v2 M2 H2 k2 h2 r2 q2 => ⟨t, t2, M2, Q, Rep.kp k2 _ _ r1, r2, h2, q2, en.kp (k1.trans k2)⟩⟩⟩
theorem a0i {op : Operator} {r : R3} (ho : OpR3 X (binaryOp op) r) (ha : HE X a ta) (hb : HE X b tb) : HE X (.BinOp a op b pos) (tOp3 r ta tb) := fun ρ M Q h =>
 (b8p ho (ha.d (ρ := ρ)) (hb.d (ρ := ρ))).imp fun σ H Q2 b => dOp h b
theorem h_un {op : UnaryOp} {r : T → MH → VK3 → Prop} (ho : UnR3 X (unaryOp op) r) (ha : HE X a ta) : HE X (.UnaryOp op a pos) (tUn3 r ta) := fun ρ M Q h =>
 (b8o ho (ha.d (ρ := ρ))).imp fun σ H Q2 ⟨hr, hh, en⟩ => ⟨M, _, h, hr, hh, fun t v M1 H1 k1 h1 r1 q1 => ⟨t, M1, Q, r1, h1, q1, en.kp k1⟩⟩
theorem b8B {i : Nat} {x : Str} (hN : X.N[i]? = some x) (hv : Vis X.env.scope x) (hd : (x == ("__debug__" : Str)) = false := by decide) (hcd : (x == ("__classdict__" : Str)) = false := by decide) : HE X (.Name x pos) (b2L i) := fun ρ M Q h =>
 (b6S hN hv hd hcd).imp fun σ H Q2 ⟨hr, hh, en⟩ => by
  unfold b2L at h
  split at h
  ·rename_i t e
   obtain ⟨v, e1, r⟩ := hr.2 i t e
   exact ⟨v, e1, en t v M H Kp.refl hh r h⟩
  ·exact h.elim
theorem hv (i : Nat) {x : Str} {pos : Pos} (hN : X.N[i]? = some x := by rfl) (hv : Vis X.env.scope x := by first | exact Or.inl rfl | exact Or.inr (Or.inl rfl) | exact Or.inr (Or.inr rfl)) (hd : (x == ("__debug__" : Str)) = false := by decide)
  (hcd : (x == ("__classdict__" : Str)) = false := by decide) : HE X (.Name x pos) (b2L i) := b8B hN hv hd hcd
theorem a0x {K : PySem.W.Frag} {H : Hp} {i : Int} : Rep K H (.int i) (.int i) := by unfold Rep; rfl
theorem a2N {K : PySem.W.Frag} {H : Hp} {i : Bool} : Rep K H (.bl i) (.bl i) := by unfold Rep; rfl
theorem a8p {K : PySem.W.Frag} {H : Hp} {i : Str} : Rep K H (.str i) (.str i) := by unfold Rep; rfl
theorem b1d {K : PySem.W.Frag} {H : Hp} : Rep K H .non .non := by unfold Rep; rfl
theorem a1r {K : PySem.W.Frag} {H : Hp} {a : Addr} : Rep K H (.ref a) (.adr a) := by unfold Rep; rfl
theorem a1O {K : PySem.W.Frag} {H : Hp} {a : Addr} {xs : List V} {ts : List T} (h : SqT K H a xs) (r : Reps K H xs ts) : Rep K H (.ref a) (.tup ts) := by unfold Rep; exact ⟨a, xs, rfl, h, r⟩
theorem a8N {v : V} {t : T} (h : PE X e (tC v)) (r : ∀ K H, Rep K H v t) : HE X e (tK t) := fun ρ M Q q => h.imp fun σ H Q2 ⟨hr, hh, en⟩ => en t v M H Kp.refl hh (r _ _) q
theorem a0g {i j pos} : HE X (.Constant (.int i) j pos) (tK (.int i)) := a8N b6X fun _ _ => a0x
theorem h_bl {b j pos} : HE X (.Constant (.bool b) j pos) (tK (.bl b)) := a8N b8s fun _ _ => a2N
theorem a8M {x : Str} {i : Int} {tk : Tok} {pos : Pos} (hm : X.mg x = some (.int i tk)) (hg : Gl X x := by rfl) (hd : (x == ("__debug__" : Str)) = false := by decide) : HE X (.Name x pos) (tK (.int i)) := a8N (v := .int i) (b1n hg hm ⟨tk, rfl⟩ hd) fun _ _ => a0x
theorem a0q {K : PySem.W.Frag} {H : Hp} {v : V} {i : Int} (r : Rep K H v (.int i)) : v = .int i := by unfold Rep at r; exact r
theorem a3o {K : PySem.W.Frag} {H : Hp} {v : V} {i : Str} (r : Rep K H v (.str i)) : v = .str i := by unfold Rep at r; exact r
theorem a3V {K : PySem.W.Frag} {H : Hp} {v : V} {i : Bool} (r : Rep K H v (.bl i)) : v = .bl i := by unfold Rep at r; exact r
theorem a8H {K : PySem.W.Frag} {H : Hp} {v : V} (r : Rep K H v .non) : v = .non := by unfold Rep at r; exact r
theorem a0A {K : PySem.W.Frag} {H : Hp} {v : V} {a : Addr} (r : Rep K H v (.adr a)) : v = .ref a := by unfold Rep at r; exact r
theorem a1e {K : PySem.W.Frag} {H : Hp} {v : V} {ts : List T} (r : Rep K H v (.tup ts)) : ∃ a xs, v = .ref a ∧ SqT K H a xs ∧ Reps K H xs ts := by unfold Rep at r; exact r
noncomputable def rInt (C : Int → Int → Prop) (g : Int → Int → Int) : R3 := fun x y M Q => match x, y with
 | .int i, .int j => C i j ∧ Q (.int (g i j)) M
 | _, _ => False
theorem a5d {f : Value → Value → Sem Value} {C : Int → Int → Prop} {g : Int → Int → Int} (h : OpR X f (rI C fun i j => .int (g i j))) : OpR3 X f (rInt C g) := by
 intro pins s σ H x y v u Q2 I rx ry q
 obtain ⟨a, b, M, Q, r1, r2, hh, q, en⟩ := q
 unfold rInt at q
 split at q
 ·obtain rfl := a0q r1
  obtain rfl := a0q r2
  exact h pins s σ H _ _ v u Q2 I rx ry ⟨_, _, rfl, rfl, q.1, en _ _ M H Kp.refl hh a0x q.2⟩
 ·exact q.elim
noncomputable def b4J : R3 := fun x y M Q => match x, y with
 | .int i, .int j => Q (.int (i - j)) M
 | _, _ => False
theorem a1E : OpR3 X (binaryOp .Sub) b4J := by
 intro pins s σ H x y v u Q2 I rx ry q
 obtain ⟨a, b, M, Q, r1, r2, hh, q, en⟩ := q
 unfold b4J at q
 split at q
 ·obtain rfl := a0q r1
  obtain rfl := a0q r2
  exact b6Z pins s σ H _ _ v u Q2 I rx ry ⟨_, _, rfl, rfl, en _ _ M H Kp.refl hh a0x q⟩
 ·exact q.elim
noncomputable def b0B (i j : Int) : Prop := 0 < j ∧ j.natAbs.log2 < 9000
theorem b3k : OpR X (binaryOp .FloorDiv) (rI b0B fun i j => .int (i / j)) := opI fun i j _ _ _ _ _ hc q => by
 have e : i.fdiv j = i / j := Int.fdiv_eq_ediv_of_nonneg i (Int.le_of_lt hc.1)
 exact floordiv_int (Int.ne_of_gt hc.1) (by rw [e]; exact q) (.inl (PyProof.noPylong_of_log2 hc.2))
noncomputable def b6H : R3 := rInt b0B fun i j => i / j
noncomputable def b6G : R3 := rInt (fun _ j => 0 < j) fun i j => i % j
noncomputable def b6F : R3 := rInt CPow fun i j => i ^ j.toNat
theorem a3Z : OpR3 X (binaryOp .FloorDiv) b6H := a5d b3k
theorem a2S : OpR3 X (binaryOp .Mod) b6G := a5d b7f
theorem b1s : OpR3 X (binaryOp .Pow) b6F := a5d b7d
noncomputable def b4K : T → MH → VK3 → Prop := fun x M Q => match x with
 | .int i => Q (.int (-i)) M
 | _ => False
theorem a2w : UnR3 X (unaryOp .USub) b4K := by
 intro pins s σ H x v Q2 I rx q
 obtain ⟨a, M, Q, r1, hh, q, en⟩ := q
 unfold b4K at q
 split at q
 ·obtain rfl := a0q r1
  exact b5Y pins s σ H _ v Q2 I rx ⟨_, rfl, en _ _ M H Kp.refl hh a0x q⟩
 ·exact q.elim
theorem b3l : OpR X (binaryOp .Add) (fun x y H Q => ∃ a b ys, x = .ref a ∧ y = .ref b ∧ SqT X.K H a [] ∧ SqT X.K H b ys ∧ Q (.ref b) H) := by
 intro pins s σ H x y v u Q I rx ry h
 obtain ⟨a, b, ys, rfl, rfl, hx, hy, q⟩ := h
 cases rx
 cases ry
 obtain ⟨its, r, ht, hz⟩ := I.tuple hx
 obtain ⟨its2, r2, ht2, hz2⟩ := I.tuple hy
 have e : its = [] := r.nil_iff.mpr rfl
 subst e
 obtain ⟨⟨cls, dd, data, sl⟩, ho, hc, n, hd⟩ := id ht
 obtain ⟨⟨cls2, dd2, data2, sl2⟩, ho2, hc2, n2, hd2⟩ := id ht2
 simp only at hc hd hc2 hd2
 subst hc hd hc2 hd2
 exact concat_meets ⟨_, ho, rfl⟩ ⟨_, ho2, rfl⟩ noFill_tuple_add seq_tuple_add PySem.F.slot_tuple_add PySem.F.entry_tuple_add (PySem.F.args_tuple_add_2 _ _)
   (tuple_addW0 a b _ its2.toArray n n2 dd dd2 sl sl2 (by simp)) ⟨ho, ho2, ⟨.ref b, H, I, rfl, q⟩⟩
noncomputable def b4T : R3 := fun x y M Q => match x, y with
 | .int i, .int j => Q (.int (i + j)) M
 | .str a, .str b => a.length + b.length ≤ sizeLine ∧ Q (.str (a ++ b)) M
 | .tup a, .tup b => a.length + b.length ≤ sizeLine ∧ Q (.tup (a ++ b)) M
 | .adr p, .adr q => match M p, M q with
   | some (.lst a), some (.lst b) => a.length + b.length ≤ sizeLine ∧ ∀ r, M r = none → Q (.adr r) (updM M r (.lst (a ++ b)))
   | _, _ => False
 | _, _ => False
theorem a0r : OpR3 X (binaryOp .Add) b4T := by
 intro pins s σ H x y v u Q2 I rx ry q
 obtain ⟨a, b, M, Q, r1, r2, hh, q, en⟩ := q
 unfold b4T at q
 split at q
 ·obtain rfl := a0q r1
  obtain rfl := a0q r2
  exact b7h pins s σ H _ _ v u Q2 I rx ry ⟨_, _, rfl, rfl, en _ _ M H Kp.refl hh a0x q⟩
 ·obtain rfl := a3o r1
  obtain rfl := a3o r2
  exact b0i pins s σ H _ _ v u Q2 I rx ry ⟨_, _, rfl, rfl, q.1, en _ _ M H Kp.refl hh a8p q.2⟩
 ·rename_i ts us
  obtain ⟨p, xs, rfl, h1, h2⟩ := a1e r1
  obtain ⟨p', ys, rfl, g1, g2⟩ := a1e r2
  have l1 := h2.length
  have l2 := g2.length
  by_cases hx : xs = []
  ·subst hx
   have ht : ts = [] := List.eq_nil_of_length_eq_zero (by rw [← l1]; rfl)
   subst ht
   exact b3l pins s σ H _ _ v u Q2 I rx ry ⟨_, _, ys, rfl, rfl, h1, g1, en _ _ M H Kp.refl hh (a1O g1 g2) q.2⟩
  ·refine b1r pins s σ H _ _ v u Q2 I rx ry ⟨_, _, xs, ys, rfl, rfl, h1, g1, hx, by rw [l1, l2]; exact q.1, fun hy => ?_, fun hy r hr => ?_⟩
   ·subst hy
    have ht : us = [] := List.eq_nil_of_length_eq_zero (by rw [← l2]; rfl)
    subst ht
    have q2 := q.2
    rw [List.append_nil] at q2
    exact en _ _ M H Kp.refl hh (a1O h1 h2) q2
   ·refine en _ _ M _ (Kp.new hr) (hh.keep hr) (a1O (SqT.of a0u) ?_) q.2
    exact Reps.kp (Kp.new hr) _ _ (h2.append g2)
 ·rename_i p p'
  obtain rfl := a0A r1
  obtain rfl := a0A r2
  split at q
  ·rename_i ts us e1 e2
   obtain ⟨xs, h1, h2⟩ := hh _ _ e1
   obtain ⟨ys, g1, g2⟩ := hh _ _ e2
   refine b7g pins s σ H _ _ v u Q2 I rx ry ⟨_, _, xs, ys, rfl, rfl, h1, g1, by rw [h2.length, g2.length]; exact q.1, fun r hr => ?_⟩
   exact en _ _ _ _ (Kp.new hr) (hh.newL hr (h2.append g2)) a1r (q.2 r (hh.free hr))
  ·exact q.elim
 ·exact q.elim
end
theorem a4J : fillsNumberSlot (.type "tuple") "mul" = pure false :=
 PySem.fillsNumberSlot_seq (id := "tuple.__mul__") (r := some (.builtin "tuple.__rmul__")) F.slot_tuple_mul.lookup (by decide +kernel) F.slot_tuple_rmul.lookup (by decide +kernel)
theorem a7d : seqRepeat? (.type "tuple") = pure (some (.builtin "tuple.__mul__")) := by
 unfold seqRepeat?
 rw [PySem.seqSlot_of (T := "tuple") (name := "__mul__") (id := "tuple.__mul__") F.slot_tuple_mul.lookup (by decide +kernel), PySem.seqSlot_of (T := "tuple") (name := "__rmul__") (id := "tuple.__rmul__") F.slot_tuple_rmul.lookup (by decide +kernel)]
 rfl
section
variable (l : Addr) (items : Array Value) (n : Nat) (x : Int) (u : Tok) (dd : Option Addr) (sl : Array (Option Value))
theorem a5E : Meets (Builtin.«int.__rmul__» ⟨[.int x u, .ref l], []⟩) (fun _ R s => s.heap.get? l = some { cls := .type "tuple", dict := dd, data := .seq items n, slots := sl } ∧ R (.ok (.ret Value.notImplemented)) s) :=
 .of_wp fun prog w A R s h => by obtain ⟨hp, g, d, tk, os⟩ := s; obtain ⟨hl, h⟩ := h; wp_walk; exact ⟨_, rfl, h⟩
theorem a8h (h0 : -(2 ^ 63) ≤ x) (h1 : x < 2 ^ 63) (hc : (items.isEmpty || x == 1) = true) :
  Meets (Builtin.«tuple.__mul__» ⟨[.ref l, .int x u], []⟩) (fun _ R s => s.heap.get? l = some { cls := .type "tuple", dict := dd, data := .seq items n, slots := sl } ∧ R (.ok (.ret (Value.ref l))) s) :=
 .of_wp fun prog w A R s h => by
  obtain ⟨hp, g, d, tk, os⟩ := s; obtain ⟨hl, h⟩ := h
  have hb : ¬ (decide (x < -2 ^ 63) || decide (x ≥ 2 ^ 63)) = true := by simp; lia
  wp_walk
  rw [if_neg hb]
  wp_walk
  first | exact ⟨_, rfl, h⟩ | (rw [if_pos hc]; wp_walk; exact ⟨_, rfl, h⟩)
theorem a8g (h0 : -(2 ^ 63) ≤ x) (h1 : x < 2 ^ 63) (hc : ¬ (items.isEmpty || x == 1) = true) (hn : (decide (x ≤ 0) || items.isEmpty) = true) :
  Meets (Builtin.«tuple.__mul__» ⟨[.ref l, .int x u], []⟩) (fun _ R s => s.heap.get? l = some { cls := .type "tuple", dict := dd, data := .seq items n, slots := sl } ∧ R (.ok (.ret (Value.ref s.heap.objs.size))) { s with heap := s.heap.push { cls := .type "tuple", data := .seq #[] }, toks := s.toks }) :=
 .of_wp fun prog w A R s h => by
  obtain ⟨hp, g, d, tk, os⟩ := s; obtain ⟨hl, h⟩ := h
  have hb : ¬ (decide (x < -2 ^ 63) || decide (x ≥ 2 ^ 63)) = true := by simp; lia
  wp_walk
  rw [if_neg hb]
  wp_walk
  first | exact ⟨_, rfl, h⟩ | (rw [if_neg hc, if_pos hn]; wp_walk; exact ⟨_, rfl, h⟩)
theorem a8f (h0 : -(2 ^ 63) ≤ x) (h1 : x < 2 ^ 63) (hc : ¬ (items.isEmpty || x == 1) = true) (hn : ¬ (decide (x ≤ 0) || items.isEmpty) = true) (hm : ¬ items.size * x > (2 ^ 63 - 1) / 8) (hz : ¬ Builtin.Tuple.tupleTooMany (items.size * x) = true) (hf : sizeOk (.seq (List.foldl (fun x1 x2 => x1 ++ x2) #[] (List.replicate x.toNat items)))) :
  Meets (Builtin.«tuple.__mul__» ⟨[.ref l, .int x u], []⟩) (fun _ R s => s.heap.get? l = some { cls := .type "tuple", dict := dd, data := .seq items n, slots := sl } ∧ R (.ok (.ret (Value.ref s.heap.objs.size))) { s with heap := s.heap.push { cls := .type "tuple", data := .seq (List.foldl (fun x1 x2 => x1 ++ x2) #[] (List.replicate x.toNat items)) }, toks := s.toks }) :=
 .of_wp fun prog w A R s h => by
  obtain ⟨hp, g, d, tk, os⟩ := s; obtain ⟨hl, h⟩ := h
  have hb : ¬ (decide (x < -2 ^ 63) || decide (x ≥ 2 ^ 63)) = true := by simp; lia
  wp_walk
  rw [if_neg hb]
  wp_walk
  rw [if_neg hm]
  wp_walk
  first | exact ⟨_, rfl, h⟩ | (rw [if_neg (Nat.not_lt.mpr hf)]; wp_walk; exact ⟨_, rfl, h⟩)
end
section
variable {X : Cx}
noncomputable def b8k (K : PySem.W.Frag) : R2 := fun x y H Q => ∃ a k xs, x = .ref a ∧ y = .int k ∧ SqT K H a xs ∧ -(2 ^ 63) ≤ k ∧ k < 2 ^ 63 ∧ xs.length * k.toNat ≤ sizeLine ∧
 ∀ p H', SqT K H' p (List.replicate k.toNat xs).flatten → (H' = H ∨ H p = none ∧ H' = upd H p (.tup (List.replicate k.toNat xs).flatten)) → Q (.ref p) H'
theorem a5W (its : List Value) (m : Nat) : List.foldl (fun x1 x2 => x1 ++ x2) #[] (List.replicate m its.toArray) = (List.replicate m its).flatten.toArray := by
 have := a5m its m []
 rw [List.nil_append] at this
 exact this
theorem b5k : OpR X (binaryOp .Mult) (b8k X.K) := by
 intro pins s σ H x y v u Q I rx ry h
 obtain ⟨a, k, xs, rfl, rfl, hx, h1, h2, hz, q⟩ := h
 cases rx
 obtain ⟨t, rfl⟩ := ry
 obtain ⟨its, r, p, hl⟩ := I.tuple hx
 have hlen := r.length
 obtain ⟨⟨cls, dd, data, sl⟩, ho, hc, n, hd⟩ := id p
 simp only at hc hd
 subst hc hd
 refine wpAny_binaryOp_repeat_ref (T := "tuple") (U := "int") (by decide) ⟨_, ho, rfl⟩ (fun s' => typeIs_int s' k t) a4J F.fills_int_mul F.slot_int_rmul a7d F.slot_int_index.lookup
  (call_meets F.slot_int_rmul (typeIs_int s k t) F.entry_int_rmul (F.args_int_rmul_2 _ _) (a5E a its.toArray n k t dd sl) ⟨ho, rfl, ⟨_, ho, rfl⟩, ?_⟩)
 by_cases hc : (its.toArray.isEmpty || k == 1) = true
 ·refine call_meets F.slot_tuple_mul ⟨_, ho, rfl⟩ F.entry_tuple_mul (F.args_tuple_mul_2 _ _) (a8h a its.toArray n k t dd sl h1 h2 hc) ⟨ho, ?_⟩
  have e : (List.replicate k.toNat xs).flatten = xs := by
   simp only [Bool.or_eq_true, beq_iff_eq] at hc
   rcases hc with hc | hc
   ·have : its = [] := by simpa using hc
    subst this
    cases r
    simp
   ·subst hc
    simp
  exact ⟨.ref a, H, I, rfl, q a H (by rw [e]; exact hx) (.inl rfl)⟩
 ·by_cases hn : (decide (k ≤ 0) || its.toArray.isEmpty) = true
  ·refine call_meets F.slot_tuple_mul ⟨_, ho, rfl⟩ F.entry_tuple_mul (F.args_tuple_mul_2 _ _) (a8g a its.toArray n k t dd sl h1 h2 hc hn) ⟨ho, ?_⟩
   have hk : k.toNat = 0 := by
    simp only [Bool.or_eq_true, decide_eq_true_eq] at hn hc
    rcases hn with hn | hn
    ·lia
    ·exact absurd (.inl hn) hc
   have e : (List.replicate k.toNat xs).flatten = [] := by rw [hk]; rfl
   refine ⟨.ref s.heap.objs.size, _, I.laid (t' := s.toks) (o := .tup []) (fun b ob q => Heap.get?_push_of_some _ q) (Nat.le_refl _) ?_, rfl, q _ _ ?_ (.inr ⟨I.hok.fresh (Nat.le_refl _), by rw [e]⟩)⟩
   ·exact ⟨Nat.zero_le _, [], .nil, a2Q.new _ _⟩
   ·rw [e]; exact SqT.of a0u
  ·have hm : (its.toArray.size : Int) * k ≤ sizeLine := by
    have : its.toArray.size = xs.length := by rw [hlen]; simp
    rw [this]
    have hk : (0 : Int) ≤ k := by
     simp only [Bool.or_eq_true, decide_eq_true_eq] at hn
     lia
    have e2 : k = ((k.toNat : Nat) : Int) := by lia
    rw [e2, ← Int.natCast_mul]
    exact_mod_cast hz
   have hz2 : ((List.replicate k.toNat its).flatten).length ≤ sizeLine := by rw [a8C, Nat.mul_comm, ← hlen]; exact hz
   refine call_meets F.slot_tuple_mul ⟨_, ho, rfl⟩ F.entry_tuple_mul (F.args_tuple_mul_2 _ _) (a8f a its.toArray n k t dd sl h1 h2 hc hn ?_ ?_ ?_) ⟨ho, ?_⟩
   ·have : (sizeLine : Int) ≤ (2 ^ 63 - 1) / 8 := by decide
    lia
   ·unfold Builtin.Tuple.tupleTooMany
    simp only [decide_eq_true_eq]
    lia
   ·rw [a5W]
    show (List.replicate k.toNat its).flatten.toArray.size ≤ sizeLine
    rw [List.size_toArray]
    exact hz2
   ·rw [a5W]
    refine ⟨.ref s.heap.objs.size, _, I.laid (t' := s.toks) (o := .tup (List.replicate k.toNat xs).flatten) (fun b ob q => Heap.get?_push_of_some _ q) (Nat.le_refl _) ?_, rfl, q _ _ (SqT.of a0u) (.inr ⟨I.hok.fresh (Nat.le_refl _), rfl⟩)⟩
    exact ⟨by rw [a8C, Nat.mul_comm]; exact hz, _, r.rep k.toNat, a2Q.new _ _⟩
end
theorem Reps.atI {K : PySem.W.Frag} {H : Hp} {vs : List V} {ts : List T} {i : Int} {t : T} (h : Reps K H vs ts) (e : atI ts i = some t) : ∃ v, L2.atI vs i = some v ∧ Rep K H v t := by
 unfold L2.atI at e ⊢
 rw [h.length]
 cases q : ixN ts.length i with
 | none => rw [q] at e; cases e
 | some j => rw [q] at e; exact h.get e
section
variable {X : Cx} {a b c e : Expr} {es : List Expr} {ta tb tc te : TE3} {pos : Pos}
noncomputable def rIx3 : R3 := fun x y M Q => match x, y with
 | .tup ts, .int i => (match atI ts i with | some t => Q t M | none => False)
 | .rd ts, .int i => (match atI ts i with | some t => Q t M | none => False)
 | .adr p, .int i => (match M p with | some (.lst ts) => (match atI ts i with | some t => Q t M | none => False) | _ => False)
 | .str z, .int i => z.length ≤ sizeLine ∧ (match atI z.cps.toList i with | some c => Q (.str ⟨#[c]⟩) M | none => False)
 | _, _ => False
theorem a5T {K : PySem.W.Frag} {H : Hp} {v : V} {ts : List T} (r : Rep K H v (.rd ts)) : ∃ a xs, v = .ref a ∧ FzL K H a xs ∧ Reps K H xs ts := by unfold Rep at r; exact r
theorem ix3 : IxR3 X rIx3 := by
 intro value slice pins s σ H x y v u Q2 I rx ry q hs
 obtain ⟨a, b, M, Q, r1, r2, hh, q, en⟩ := q
 unfold rIx3 at q
 split at q
 ·obtain rfl := a0q r2
  obtain ⟨p, xs, rfl, h1, h2⟩ := a1e r1
  split at q
  ·rename_i t e
   obtain ⟨w, ew, rw'⟩ := h2.atI e
   exact b7u value slice pins s σ H _ _ v u Q2 I rx ry ⟨_, _, _, w, rfl, rfl, h1, ew, en _ _ M H Kp.refl hh rw' q⟩ hs
  ·exact q.elim
 ·obtain rfl := a0q r2
  obtain ⟨p, xs, rfl, h1, h2⟩ := a5T r1
  split at q
  ·rename_i t e
   obtain ⟨w, ew, rw'⟩ := h2.atI e
   exact b1N value slice pins s σ H _ _ v u Q2 I rx ry ⟨_, _, _, w, rfl, rfl, h1.sq, ew, en _ _ M H Kp.refl hh rw' q⟩ hs
  ·exact q.elim
 ·obtain rfl := a0q r2
  obtain rfl := a0A r1
  split at q
  ·rename_i ts e0
   obtain ⟨xs, h1, h2⟩ := hh _ _ e0
   split at q
   ·rename_i t e
    obtain ⟨w, ew, rw'⟩ := h2.atI e
    exact b1N value slice pins s σ H _ _ v u Q2 I rx ry ⟨_, _, _, w, rfl, rfl, SqL.of h1, ew, en _ _ M H Kp.refl hh rw' q⟩ hs
   ·exact q.elim
  ·exact q.elim
 ·obtain rfl := a0q r2
  obtain rfl := a3o r1
  obtain ⟨hz, q⟩ := q
  split at q
  ·rename_i c e
   exact b7v value slice pins s σ H _ _ v u Q2 I rx ry ⟨_, _, c, rfl, rfl, hz, e, en _ _ M H Kp.refl hh a8p q⟩ hs
  ·exact q.elim
 ·exact q.elim
theorem h_ix (ha : HE X a ta) (hb : HE X b tb) (hs : b2E b := by intro _ _; rfl) : HE X (.Subscript a b pos) (tOp3 rIx3 ta tb) := fun ρ M Q h =>
 (b8q ix3 (ha.d (ρ := ρ)) (hb.d (ρ := ρ)) hs).imp fun σ H Q2 b => dOp h b
noncomputable def b4L : R3 := fun x y M Q => match x, y with
 | .int i, .int j => CMul i j ∧ Q (.int (i * j)) M
 | .adr p, .int k => (match M p with
   | some (.lst ts) => -(2 ^ 63) ≤ k ∧ k < 2 ^ 63 ∧ ts.length * k.toNat ≤ sizeLine ∧ ∀ r, M r = none → Q (.adr r) (updM M r (.lst (List.replicate k.toNat ts).flatten))
   | _ => False)
 | .tup ts, .int k => -(2 ^ 63) ≤ k ∧ k < 2 ^ 63 ∧ ts.length * k.toNat ≤ sizeLine ∧ Q (.tup (List.replicate k.toNat ts).flatten) M
 | _, _ => False
theorem Reps.rep {K : PySem.W.Frag} {H : Hp} {vs : List V} {ts : List T} (h : Reps K H vs ts) : ∀ k : Nat, Reps K H (List.replicate k vs).flatten (List.replicate k ts).flatten
 | 0 => .nil
 | k + 1 => by
   rw [List.replicate_succ, List.replicate_succ, List.flatten_cons, List.flatten_cons]
   exact Reps.append h (Reps.rep h k)
theorem a1d : OpR3 X (binaryOp .Mult) b4L := by
 intro pins s σ H x y v u Q2 I rx ry q
 obtain ⟨a, b, M, Q, r1, r2, hh, q, en⟩ := q
 unfold b4L at q
 split at q
 ·obtain rfl := a0q r1
  obtain rfl := a0q r2
  exact b7e pins s σ H _ _ v u Q2 I rx ry ⟨_, _, rfl, rfl, q.1, en _ _ M H Kp.refl hh a0x q.2⟩
 ·obtain rfl := a0A r1
  obtain rfl := a0q r2
  split at q
  ·rename_i ts e0
   obtain ⟨xs, h1, h2⟩ := hh _ _ e0
   obtain ⟨q1, q2, q3, q4⟩ := q
   refine b7c pins s σ H _ _ v u Q2 I rx ry ⟨_, _, xs, rfl, rfl, h1, q1, q2, by rw [h2.length]; exact q3, fun r hr => ?_⟩
   exact en _ _ _ _ (Kp.new hr) (hh.newL hr (h2.rep _)) a1r (q4 r (hh.free hr))
  ·exact q.elim
 ·obtain ⟨l, xs, rfl, g1, g2⟩ := a1e r1
  obtain rfl := a0q r2
  obtain ⟨q1, q2, q3, q4⟩ := q
  refine b5k pins s σ H _ _ v u Q2 I rx ry ⟨_, _, xs, rfl, rfl, g1, q1, q2, by rw [g2.length]; exact q3, fun r H' h' c => ?_⟩
  rcases c with rfl | ⟨c1, rfl⟩
  ·exact en _ _ _ _ Kp.refl hh (a1O h' (g2.rep _)) q4
  ·exact en _ _ _ _ (Kp.new c1) (hh.keep c1) (a1O h' (Reps.kp (Kp.new c1) _ _ (g2.rep _))) q4
 ·exact q.elim
noncomputable def a8s (g : Int → Int → Bool) : R3 := fun x y M Q => match x, y with
 | .int i, .int j => Q (.bl (g i j)) M
 | _, _ => False
theorem a6s {f : Value → Value → Sem Value} {g : Int → Int → Bool} (h : OpR X f (rI0 fun i j => .bl (g i j))) : OpR3 X f (a8s g) := by
 intro pins s σ H x y v u Q2 I rx ry q
 obtain ⟨a, b, M, Q, r1, r2, hh, q, en⟩ := q
 unfold a8s at q
 split at q
 ·obtain rfl := a0q r1
  obtain rfl := a0q r2
  exact h pins s σ H _ _ v u Q2 I rx ry ⟨_, _, rfl, rfl, en _ _ M H Kp.refl hh a2N q⟩
 ·exact q.elim
noncomputable def rLt3 : R3 := a8s fun i j => decide (i < j)
noncomputable def rLe3 : R3 := a8s fun i j => decide (i ≤ j)
noncomputable def rGt3 : R3 := a8s fun i j => decide (j < i)
noncomputable def rGe3 : R3 := a8s fun i j => decide (j ≤ i)
theorem b1v : OpR3 X (compareOp .Lt) rLt3 := a6s b8u
theorem a9q : OpR3 X (compareOp .LtE) rLe3 := a6s b8v
theorem a5O : OpR3 X (compareOp .Gt) rGt3 := a6s b8w
theorem b7i : OpR3 X (compareOp .GtE) rGe3 := a6s b8x
noncomputable def rEqv (g : Bool → Bool) : R3 := fun x y M Q => match x, y with
 | .adr p, .adr q => (match M p, M q with
   | some (.lst a), some (.lst b) => a1B a = true ∧ a1B b = true ∧ a4b a ≤ 30 ∧ Q (.bl (g (eqTs a b))) M
   | _, _ => False)
 | x, y => a0v x = true ∧ a0v y = true ∧ depT x ≤ 30 ∧ Q (.bl (g (eqT x y))) M
noncomputable def rEq3 : R3 := rEqv id
noncomputable def rNe3 : R3 := rEqv not
theorem a7s {pins : List (Addr × Obj)} {σ : St} {H : Hp} {s : Shared} (I : Inv X pins σ H s) (hu : X.A.units + 64 < cLine) {p p' : Addr} {xs ys : List V} {ts us : List T} (h1 : H p = some (.lst xs)) (h2 : Reps X.K H xs ts) (g1 : H p' = some (.lst ys)) (g2 : Reps X.K H ys us)
  (px : a1B ts = true) (py : a1B us = true) (hd : a4b ts ≤ 30) :
  SeqAt.RcAt X.A s (.ref p) (.ref p') (eqTs ts us) ∧ SeqAt.RcNeAt X.A s (.ref p) (.ref p') (!(eqTs ts us)) := by
 obtain ⟨its, r1, pl, _⟩ := I.list (SqL.of h1)
 obtain ⟨its2, r2, pl2, _⟩ := I.list (SqL.of g1)
 have l1 := h2.length
 have l2 := g2.length
 have m1 := r1.length
 have m2 := r2.length
 have hu' : X.A.units < cLine := by lia
 by_cases hl : its.length = its2.length
 ·have he := a9C (X := X) (A := X.A.in1) (s := s) (n := 30) px py hd h2 g2 r1 r2 fun x y v u a b hx px py rx ry ra rb => (b2d I 30 X.A.in1 x y v u a b hx (by show X.A.units + 1 + 30 + 1 < cLine; lia) px py rx ry ra rb).1
  have hsz : its.toArray.size = its2.toArray.size := by simpa using hl
  have rc := SeqAt.RcAt.lists (A := X.A) pl.isList pl2.isList hsz hu' he
  have rn := SeqAt.RcNeAt.lists (A := X.A) pl.isList pl2.isList hsz hu' he
  have ee : (List.range its.toArray.size).all (eqJ ts us) = eqTs ts us := by
   rw [← a3N, List.size_toArray, ← l1, ← l2, m1, m2, ← hl]
   simp
  rw [ee] at rc rn
  exact ⟨rc, rn⟩
 ·have hne : eqTs ts us = false := by
   cases q : eqTs ts us with
   | false => rfl
   | true => have := a9F q; lia
  have hsz : (its.toArray.size != its2.toArray.size) = true := by simpa using hl
  rw [hne]
  exact ⟨SeqAt.RcAt.lists_lengths pl.isList pl2.isList hsz hu', SeqAt.RcNeAt.lists_lengths pl.isList pl2.isList hsz hu'⟩
theorem a5e (hu : X.A.units + 64 < cLine) : OpR3 X (compareOp .Eq) rEq3 := by
 intro pins s σ H x y v u Q2 I rx ry q
 obtain ⟨a, b, M, Q, r1, r2, hh, q, en⟩ := q
 unfold rEq3 rEqv at q
 split at q
 ·rename_i p p'
  split at q
  ·rename_i ts us e1 e2
   obtain ⟨xs, h1, h2⟩ := hh _ _ e1
   obtain ⟨ys, g1, g2⟩ := hh _ _ e2
   obtain rfl := a0A r1
   obtain rfl := a0A r2
   cases rx
   cases ry
   exact (a7s I hu h1 h2 g1 g2 q.1 q.2.1 q.2.2.1).1 _ _ _ _ ⟨.bl _, H, I, rfl, en _ _ M H Kp.refl hh a2N q.2.2.2⟩
  ·exact q.elim
 ·obtain ⟨q1, q2, q3, q⟩ := q
  exact (b2d I 30 X.A a b x y v u q3 (by lia) q1 q2 r1 r2 rx ry).2.1 _ _ _ _ ⟨.bl _, H, I, rfl, en _ _ M H Kp.refl hh a2N q⟩
theorem b1u (hu : X.A.units + 64 < cLine) : OpR3 X (compareOp .NotEq) rNe3 := by
 intro pins s σ H x y v u Q2 I rx ry q
 obtain ⟨a, b, M, Q, r1, r2, hh, q, en⟩ := q
 unfold rNe3 rEqv at q
 split at q
 ·rename_i p p'
  split at q
  ·rename_i ts us e1 e2
   obtain ⟨xs, h1, h2⟩ := hh _ _ e1
   obtain ⟨ys, g1, g2⟩ := hh _ _ e2
   obtain rfl := a0A r1
   obtain rfl := a0A r2
   cases rx
   cases ry
   exact (a7s I hu h1 h2 g1 g2 q.1 q.2.1 q.2.2.1).2 _ _ _ _ ⟨.bl _, H, I, rfl, en _ _ M H Kp.refl hh a2N q.2.2.2⟩
  ·exact q.elim
 ·obtain ⟨q1, q2, q3, q⟩ := q
  exact (b2d I 30 X.A a b x y v u q3 (by lia) q1 q2 r1 r2 rx ry).2.2 _ _ _ _ ⟨.bl _, H, I, rfl, en _ _ M H Kp.refl hh a2N q⟩
theorem b0u {op : CmpOp} {r : R3} (ho : OpR3 X (compareOp op) r) (ha : HE X a ta) (hb : HE X b tb) (hm : behindInMarks op b = false) : HE X (.Compare a [op] [b] pos) (tOp3 r ta tb) := fun ρ M Q h =>
 (b5f ho (ha.d (ρ := ρ)) (hb.d (ρ := ρ)) hm).imp fun σ H Q2 b => dOp h b
noncomputable def b0H (t : TE3) : TT3 := fun ρ M Q => t ρ M fun x M1 => match x with
 | .bl k => Q k M1
 | _ => False
theorem a9G {K : PySem.W.Frag} {H : Hp} {Q : Bool → MH → Prop} {Q2 : Bool → Hp → Prop} (en : EndT K H Q Q2) : EndE K H (fun x M1 => match x with | .bl k => Q k M1 | _ => False) (fun x H' => ∃ k, x = .bl k ∧ Q2 k H') := by
 intro t v M' H' k h r q
 split at q
 ·obtain rfl := a3V r
  exact ⟨_, rfl, en _ M' H' k h q⟩
 ·exact q.elim
theorem a1X {op : CmpOp} {r : R3} (ho : OpR3 X (compareOp op) r) (ha : HE X a ta) (hb : HE X b tb) (hm : behindInMarks op b = false) : HT X (.Compare a [op] [b] pos) (b0H (tOp3 r ta tb)) := fun ρ M Q h =>
 (b4Y ho (ha.d (ρ := ρ)) (hb.d (ρ := ρ)) hm).imp fun σ H Q2 ⟨hr, hh, en⟩ => dOp (ta := ta) (tb := tb) (r := r) h ⟨hr, hh, a9G en⟩
noncomputable def a6i (r r' : R3) (ta tb tc : TE3) : TE3 := fun ρ M Q => ta ρ M fun x M1 => tb ρ M1 fun y M2 => r x y M2 fun z M3 => match z with
 | .bl k => (if k = true then tc ρ M3 fun w M4 => r' y w M4 Q else Q (.bl false) M3)
 | _ => False
theorem b4i {ρ : En} {M : MH} {Q : VK3} {r r' : R3} (h : a6i r r' ta tb tc ρ M Q) {σ : St} {H : Hp} {Q2 : VK} (b : bE X.K ρ M Q σ H Q2) : b0J (dR X.K r) (dR X.K r') (dE X.K ρ ta) (dE X.K ρ tb) (dE X.K ρ tc) σ H Q2 := by
 obtain ⟨hr, hh, en⟩ := b
 refine ⟨M, _, h, hr, hh, fun t v M1 H1 k1 h1 r1 q1 => ⟨M1, _, q1, hr.kp k1, h1, fun t2 v2 M2 H2 k2 h2 r2 q2 => ⟨t, t2, M2, _, Rep.kp k2 _ _ r1, r2, h2, q2, fun z v3 M3 H3 k3 h3 r3 q3 => ?_⟩⟩⟩
 split at q3
 ·rename_i k
  obtain rfl := a3V r3
  refine ⟨k, rfl, ?_⟩
  have kk := k1.trans (k2.trans k3)
  split
  ·rename_i hk
   rw [if_pos hk] at q3
   exact ⟨M3, _, q3, hr.kp kk, h3, fun t4 v4 M4 H4 k4 h4 r4 q4 => ⟨t2, t4, M4, Q, Rep.kp (k3.trans k4) _ _ r2, r4, h4, q4, en.kp (kk.trans k4)⟩⟩
  ·rename_i hk
   rw [if_neg hk] at q3
   exact en _ _ M3 H3 kk h3 a2N q3
 ·exact q3.elim
theorem b5E {op op' : CmpOp} {r r' : R3} (ho : OpR3 X (compareOp op) r) (ho' : OpR3 X (compareOp op') r') (ha : HE X a ta) (hb : HE X b tb) (hc : HE X c tc)
  (hm : lastMarks [op, op'] [b, c] = false := by with_unfolding_all rfl) : HE X (.Compare a [op, op'] [b, c] pos) (a6i r r' ta tb tc) := fun ρ M Q h =>
 (b3g ho ho' (ha.d (ρ := ρ)) (hb.d (ρ := ρ)) (hc.d (ρ := ρ)) hm).imp fun σ H Q2 b => b4i h b
theorem b3z {op op' : CmpOp} {r r' : R3} (ho : OpR3 X (compareOp op) r) (ho' : OpR3 X (compareOp op') r') (ha : HE X a ta) (hb : HE X b tb) (hc : HE X c tc)
  (hm : lastMarks [op, op'] [b, c] = false := by with_unfolding_all rfl) : HT X (.Compare a [op, op'] [b, c] pos) (b0H (a6i r r' ta tb tc)) := fun ρ M Q h =>
 (b3a ho ho' (ha.d (ρ := ρ)) (hb.d (ρ := ρ)) (hc.d (ρ := ρ)) hm).imp fun σ H Q2 ⟨hr, hh, en⟩ => b4i (ta := ta) (tb := tb) (tc := tc) (r := r) (r' := r') h ⟨hr, hh, a9G en⟩
noncomputable def truT (M : MH) : T → Option Bool
 | .non => some false
 | .bl b => some b
 | .int i => some (i != 0)
 | .str y => if y.length ≤ sizeLine then some (decide (y.length ≠ 0)) else none
 | .tup ts => some (!ts.isEmpty)
 | .rd ts => some (!ts.isEmpty)
 | .dic _ _ => none
 | .adr p => match M p with
   | some (.lst ts) => some (!ts.isEmpty)
   | _ => none
noncomputable def b6f (te : TE3) : TT3 := fun ρ M Q => te ρ M fun x M1 => match truT M1 x with
 | some k => Q k M1
 | none => False
theorem a6K {K : PySem.W.Frag} {H : Hp} {xs : List V} {ts : List T} (h : Reps K H xs ts) : (!xs.isEmpty) = !ts.isEmpty := by
 have := h.length
 cases xs <;> cases ts <;> first | rfl | (simp at this)
theorem a3p (ha : HE X a ta) (he : ∀ whole, isTrue a X.env whole = (do let v ← whole; standAt a.pos; holding [v] (truthy v)) := by intro _; rfl) : HT X a (b6f ta) := fun ρ M Q h =>
 (b2Z (ha.d (ρ := ρ)) he).imp fun σ H Q2 ⟨hr, hh, en⟩ => ⟨M, _, h, hr, hh, fun t v M1 H1 k1 h1 r1 q1 => by
  have fin : ∀ k, truT M1 t = some k → Q2 k H1 := fun k e => by
   have q : (match truT M1 t with | some k => Q k M1 | none => False) := q1
   rw [e] at q
   exact en k M1 H1 k1 h1 q
  cases t with
  | non => obtain rfl := a8H r1; exact ⟨false, rfl, fin _ rfl⟩
  | bl b => obtain rfl := a3V r1; exact ⟨b, rfl, fin _ rfl⟩
  | int i => obtain rfl := a0q r1; exact ⟨_, rfl, fin _ rfl⟩
  | str y =>
    obtain rfl := a3o r1
    by_cases hy : y.length ≤ sizeLine
    ·refine ⟨_, ⟨hy, rfl⟩, fin _ ?_⟩
     show (if y.length ≤ sizeLine then some (decide (y.length ≠ 0)) else none) = _
     rw [if_pos hy]
     congr 1
     by_cases h0 : y.length = 0
     ·rw [h0]; rfl
     ·have : ((y.length : Int) != 0) = true := by simpa using h0
      rw [this]; simpa using h0
    ·have q : (match truT M1 (.str y) with | some k => Q k M1 | none => False) := q1
     have e : truT M1 (.str y) = none := if_neg hy
     rw [e] at q
     exact q.elim
  | tup ts =>
    obtain ⟨p, xs, rfl, g1, g2⟩ := a1e r1
    exact ⟨!xs.isEmpty, .inr (.inl ⟨xs, g1, rfl⟩), fin _ (by rw [a6K g2]; rfl)⟩
  | rd ts =>
    obtain ⟨p, xs, rfl, g1, g2⟩ := a5T r1
    exact ⟨!xs.isEmpty, .inl ⟨xs, g1.sq, rfl⟩, fin _ (by rw [a6K g2]; rfl)⟩
  | dic ks ts =>
    have q : (match truT M1 (.dic ks ts) with | some k => Q k M1 | none => False) := q1
    exact q.elim
  | adr p =>
    obtain rfl := a0A r1
    cases e0 : M1 p with
    | none =>
      have q : (match truT M1 (.adr p) with | some k => Q k M1 | none => False) := q1
      have e : truT M1 (.adr p) = none := by show (match M1 p with | some (.lst ts) => some (!ts.isEmpty) | _ => none) = none; rw [e0]
      rw [e] at q
      exact q.elim
    | some o =>
      cases o with
      | lst ts =>
        obtain ⟨xs, g1, g2⟩ := h1 _ _ e0
        exact ⟨!xs.isEmpty, .inl ⟨xs, SqL.of g1, rfl⟩, fin _ (by show (match M1 p with | some (.lst ts) => some (!ts.isEmpty) | _ => none) = _; rw [e0, a6K g2])⟩
      | dk kvs =>
        have q : (match truT M1 (.adr p) with | some k => Q k M1 | none => False) := q1
        have e : truT M1 (.adr p) = none := by show (match M1 p with | some (.lst ts) => some (!ts.isEmpty) | _ => none) = none; rw [e0]
        rw [e] at q
        exact q.elim
      | dt kvs =>
        have q : (match truT M1 (.adr p) with | some k => Q k M1 | none => False) := q1
        have e : truT M1 (.adr p) = none := by show (match M1 p with | some (.lst ts) => some (!ts.isEmpty) | _ => none) = none; rw [e0]
        rw [e] at q
        exact q.elim
      | fz kvs =>
        have q : (match truT M1 (.adr p) with | some k => Q k M1 | none => False) := q1
        have e : truT M1 (.adr p) = none := by show (match M1 p with | some (.lst ts) => some (!ts.isEmpty) | _ => none) = none; rw [e0]
        rw [e] at q
        exact q.elim
      | fk kvs =>
        have q : (match truT M1 (.adr p) with | some k => Q k M1 | none => False) := q1
        have e : truT M1 (.adr p) = none := by show (match M1 p with | some (.lst ts) => some (!ts.isEmpty) | _ => none) = none; rw [e0]
        rw [e] at q
        exact q.elim
      | ob C fs =>
        have q : (match truT M1 (.adr p) with | some k => Q k M1 | none => False) := q1
        have e : truT M1 (.adr p) = none := by show (match M1 p with | some (.lst ts) => some (!ts.isEmpty) | _ => none) = none; rw [e0]
        rw [e] at q
        exact q.elim⟩
end
section
variable {X : Cx} {a b c e : Expr} {es rest : List Expr} {ta tb tc te : TE3} {tA tB : TT3} {t : TA3} {pos : Pos}
noncomputable def HW (X : Cx) (e : Expr) (t : TT3) : Prop := ∀ ρ M Q, t ρ M Q → PW X e (bT X.K ρ M Q)
theorem HW.d {t : TT3} {ρ : En} (h : HW X e t) : PW X e (dT X.K ρ t) := fun wh pins s σ H Q I ⟨M, Q3, q, b⟩ => h ρ M Q3 q wh pins s σ H Q I b
theorem PW.imp {t t' : TT} (h : PW X e t) (f : ∀ σ H Q, t' σ H Q → t σ H Q) : PW X e t' := fun wh pins s σ H Q I q => h wh pins s σ H Q I (f σ H Q q)
theorem HW.ht {t : TT3} (h : HW X e t) : HT X e t := fun ρ M Q q => (h ρ M Q q).pt
noncomputable def b6v (t u : TT3) : TT3 := fun ρ M Q => t ρ M fun c M1 => if c = true then u ρ M1 Q else Q false M1
noncomputable def tOr3 (t u : TT3) : TT3 := fun ρ M Q => t ρ M fun c M1 => if c = true then Q true M1 else u ρ M1 Q
noncomputable def b6j (t : TT3) : TT3 := fun ρ M Q => t ρ M fun c M1 => Q (!c) M1
theorem a7E (ha : HT X a tA) : HT X (.UnaryOp .Not a pos) (b6j tA) := fun ρ M Q h =>
 (b6K (ha.d (ρ := ρ))).imp fun σ H Q2 ⟨hr, hh, en⟩ => ⟨M, _, h, hr, hh, fun b M1 H1 k1 h1 q1 => en _ M1 H1 k1 h1 q1⟩
theorem b3O (ha : HT X a tA) : HW X (.BoolOp .And [a] pos) tA := fun ρ M Q h => (b4V (ha.d (ρ := ρ))).imp fun σ H Q2 b => ⟨M, Q, h, b⟩
theorem b2K (ha : HT X a tA) : HW X (.BoolOp .Or [a] pos) tA := fun ρ M Q h => (b6I (ha.d (ρ := ρ))).imp fun σ H Q2 b => ⟨M, Q, h, b⟩
theorem b5X (ha : HT X a tA) (hb : HW X (.BoolOp .And (b :: rest) pos) tB) : HW X (.BoolOp .And (a :: b :: rest) pos) (b6v tA tB) := fun ρ M Q h =>
 (b6J (ha.d (ρ := ρ)) (hb.d (ρ := ρ))).imp fun σ H Q2 ⟨hr, hh, en⟩ => ⟨M, _, h, hr, hh, fun b M1 H1 k1 h1 q1 => by
  dsimp only at q1 ⊢
  split
  ·rename_i hb; rw [if_pos hb] at q1
   exact ⟨M1, Q, q1, hr.kp k1, h1, fun b' M2 H2 k2 => en b' M2 H2 (k1.trans k2)⟩
  ·rename_i hb; rw [if_neg hb] at q1
   exact en _ M1 H1 k1 h1 q1⟩
theorem w_or (ha : HT X a tA) (hb : HW X (.BoolOp .Or (b :: rest) pos) tB) : HW X (.BoolOp .Or (a :: b :: rest) pos) (tOr3 tA tB) := fun ρ M Q h =>
 (b8m (ha.d (ρ := ρ)) (hb.d (ρ := ρ))).imp fun σ H Q2 ⟨hr, hh, en⟩ => ⟨M, _, h, hr, hh, fun b M1 H1 k1 h1 q1 => by
  dsimp only at q1 ⊢
  split
  ·rename_i hb; rw [if_pos hb] at q1
   exact en _ M1 H1 k1 h1 q1
  ·rename_i hb; rw [if_neg hb] at q1
   exact ⟨M1, Q, q1, hr.kp k1, h1, fun b' M2 H2 k2 => en b' M2 H2 (k1.trans k2)⟩⟩
noncomputable def b3X (ta tb : TE3) : TE3 := fun ρ M Q => ta ρ M fun x M1 => match x with
 | .bl c => (if c = true then tb ρ M1 Q else Q (.bl false) M1)
 | _ => False
noncomputable def b3R (ta : TE3) : TE3 := fun ρ M Q => ta ρ M fun x M1 => match x with
 | .bl c => Q (.bl (!c)) M1
 | _ => False
theorem b8C {op} (ha : HE X a ta) : HE X (.BoolOp op [a] pos) ta := fun ρ M Q h => b6U (ha ρ M Q h)
theorem b8E (ha : HE X a ta) (hb : HE X (.BoolOp .And (b :: rest) pos) tb) : HE X (.BoolOp .And (a :: b :: rest) pos) (b3X ta tb) := fun ρ M Q h =>
 (b6Y (ha.d (ρ := ρ)) (hb.d (ρ := ρ))).imp fun σ H Q2 ⟨hr, hh, en⟩ => ⟨M, _, h, hr, hh, fun x v M1 H1 k1 h1 r1 q1 => by
  dsimp only at q1 ⊢
  split at q1
  ·rename_i c
   obtain rfl := a3V r1
   refine ⟨c, rfl, ?_⟩
   split
   ·rename_i hc; rw [if_pos hc] at q1
    exact ⟨M1, Q, q1, hr.kp k1, h1, en.kp k1⟩
   ·rename_i hc; rw [if_neg hc] at q1
    exact en _ _ M1 H1 k1 h1 a2N q1
  ·exact q1.elim⟩
theorem b7A (ha : HE X a ta) : HE X (.UnaryOp .Not a pos) (b3R ta) := fun ρ M Q h =>
 (b6V (ha.d (ρ := ρ))).imp fun σ H Q2 ⟨hr, hh, en⟩ => ⟨M, _, h, hr, hh, fun x v M1 H1 k1 h1 r1 q1 => by
  dsimp only at q1 ⊢
  split at q1
  ·rename_i c
   obtain rfl := a3V r1
   exact ⟨c, rfl, en _ _ M1 H1 k1 h1 a2N q1⟩
  ·exact q1.elim⟩
noncomputable def tIf3 (t : TT3) (ta tb : TE3) : TE3 := fun ρ M Q => t ρ M fun c M1 => if c = true then ta ρ M1 Q else tb ρ M1 Q
theorem b8D (hc : HT X c tA) (ha : HE X a ta) (hb : HE X b tb) : HE X (.IfExp c a b pos) (tIf3 tA ta tb) := fun ρ M Q h =>
 (b3c (hc.d (ρ := ρ)) (ha.d (ρ := ρ)) (hb.d (ρ := ρ))).imp fun σ H Q2 ⟨hr, hh, en⟩ => ⟨M, _, h, hr, hh, fun b M1 H1 k1 h1 q1 => by
  dsimp only at q1 ⊢
  split
  ·rename_i hb; rw [if_pos hb] at q1
   exact ⟨M1, Q, q1, hr.kp k1, h1, en.kp k1⟩
  ·rename_i hb; rw [if_neg hb] at q1
   exact ⟨M1, Q, q1, hr.kp k1, h1, en.kp k1⟩⟩
noncomputable def b6k : TA3 := fun _ M Q => Q [] M
noncomputable def b0I (ta : TE3) (tr : TA3) : TA3 := fun ρ M Q => ta ρ M fun x M1 => tr ρ M1 fun xs M2 => Q (x :: xs) M2
theorem a0f : HA X [] b6k := fun ρ M Q h => b4b.imp fun σ H Q2 ⟨hr, hh, en⟩ => en [] [] M H Kp.refl hh .nil h
theorem a0a (ha : HE X a ta) (hr : HA X es t) (hs : starEach (a :: es) X.env = (false, eval a X.env) :: starEach es X.env := by rfl) : HA X (a :: es) (b0I ta t) := fun ρ M Q h =>
 (a8u (ha.d (ρ := ρ)) (hr.d (ρ := ρ)) hs).imp fun σ H Q2 ⟨hr, hh, en⟩ => ⟨M, _, h, hr, hh, fun x v M1 H1 k1 h1 r1 q1 => ⟨M1, _, q1, hr.kp k1, h1, fun ts vs M2 H2 k2 h2 r2 q2 =>
  en _ _ M2 H2 (k1.trans k2) h2 (.cons (Rep.kp k2 _ _ r1) r2) q2⟩⟩
noncomputable def b6e (t : TA3) : TE3 := fun ρ M Q => t ρ M fun xs M1 => xs.length ≤ sizeLine ∧ Q (.tup xs) M1
noncomputable def b6l (t : TA3) : TE3 := fun ρ M Q => t ρ M fun xs M1 => xs.length ≤ sizeLine ∧ ∀ p, M1 p = none → Q (.adr p) (updM M1 p (.lst xs))
theorem a3a {x1} (h : HA X es t) : HE X (.Tuple es x1 pos) (b6e t) := fun ρ M Q q =>
 (b6T (h.d (ρ := ρ))).imp fun σ H Q2 ⟨hr, hh, en⟩ => ⟨M, _, q, hr, hh, fun ts vs M1 H1 k1 h1 r1 q1 =>
  ⟨by rw [r1.length]; exact q1.1, fun p hp => en _ _ M1 _ (k1.trans (Kp.new hp)) (h1.keep hp) (a1O (SqT.of a0u) (Reps.kp (Kp.new hp) _ _ r1)) q1.2⟩⟩
theorem a5F (h : HA X es t) : HE X (.List es pos) (b6l t) := fun ρ M Q q =>
 (b6W (h.d (ρ := ρ))).imp fun σ H Q2 ⟨hr, hh, en⟩ => ⟨M, _, q, hr, hh, fun ts vs M1 H1 k1 h1 r1 q1 =>
  ⟨by rw [r1.length]; exact q1.1, fun p hp => en _ _ _ _ (k1.trans (Kp.new hp)) (h1.newL hp r1) a1r (q1.2 p (h1.free hp))⟩⟩
noncomputable abbrev Sp3 := List T → MH → VK3 → Prop
noncomputable def dSp (K : PySem.W.Frag) (sp : Sp3) : Sp := fun vs H Q2 _ => ∃ ts M Q, Reps K H vs ts ∧ HR K H M ∧ sp ts M Q ∧ EndE K H Q Q2
structure Df (P : Program) (w : World) (K : PySem.W.Frag) (mg : Str → Option Value) (base : Heap) (n : Nat) (x : Str) (ps : List Str) (sp : Sp3) : Prop where
 out : ∃ f fd, FnOk P w K mg base CX0 n f fd ps (dSp K sp) ∧ mg x = some (.ref f) ∧ PySem.W.keepIn K (.ref f) = true ∧ a0Y K fd ps []
theorem Df.mono {P : Program} {w : World} {K : PySem.W.Frag} {mg : Str → Option Value} {base : Heap} {n m : Nat} {x : Str} {ps : List Str} {sp : Sp3} (D : Df P w K mg base n x ps sp) (h : n ≤ m) : Df P w K mg base m x ps sp := by
 obtain ⟨f, fd, F, a, b, c⟩ := D.out
 exact ⟨f, fd, F.mono h, a, b, c⟩
noncomputable def b3W (sp : Sp3) (t : TA3) : TE3 := fun ρ M Q => t ρ M fun ts M1 => sp ts M1 Q
theorem a0m {n : Nat} {x : Str} {ps : List Str} {sp : Sp3} {p : Pos} (D : Df X.prog X.w X.K X.mg X.base n x ps sp) (hr : Room n X.A) (ha : HA X (e :: es) t) (hg : Gl X x := by rfl) (hdb : (x == ("__debug__" : Str)) = false := by decide)
  (he : starEach (e :: es) X.env = (false, eval e X.env) :: starEach es X.env := by rfl) (hpl : (backTo pos (starEach es X.env)).any (·.1) = false := by rfl) :
  HE X (.Call (.Name x p) (e :: es) [] pos) (b3W sp t) := fun ρ M Q h => by
 obtain ⟨f, fd, F, hm, hk, hb⟩ := D.out
 exact (b5g F hr hg hm hk hb .nil b8t (ha.d (ρ := ρ)) hdb he hpl).imp fun σ H Q2 ⟨hr, hh, en⟩ => ⟨M, _, h, hr, hh, fun ts vs M1 H1 k1 h1 r1 q1 =>
  ⟨ts, M1, Q, by rw [List.append_nil]; exact r1, h1, q1, en.kp k1⟩⟩
noncomputable def tCB3 (r : List T → MH → VK3 → Prop) (t : TA3) : TE3 := fun ρ M Q => t ρ M fun ts M1 => r ts M1 Q
theorem a0B {x : Str} {id : String} {r : List T → MH → VK3 → Prop} {p : Pos} (hc : a2R X (.builtin id) r) (hm : X.mg x = none) (hv : bootBuiltins x = some (.builtin id)) (ha : HA X (e :: es) t) (hg : Gl X x := by rfl) (hn : x ≠ "__name__" := by decide) (hdb : (x == ("__debug__" : Str)) = false := by decide)
  (he : starEach (e :: es) X.env = (false, eval e X.env) :: starEach es X.env := by rfl) (hpl : (backTo pos (starEach es X.env)).any (·.1) = false := by rfl) : HE X (.Call (.Name x p) (e :: es) [] pos) (tCB3 r t) := fun ρ M Q h =>
 (b3h hc hg hm hv (ha.d (ρ := ρ)) hn hdb he hpl).imp fun σ H Q2 ⟨hr, hh, en⟩ => ⟨M, _, h, hr, hh, fun ts vs M1 H1 k1 h1 r1 q1 => ⟨ts, M1, Q, r1, h1, q1, en.kp k1⟩⟩
theorem a3q {x : Str} {ty : String} {r : List T → MH → VK3 → Prop} {p : Pos} (hc : a2R X (.type ty) r) (hm : X.mg x = none) (hv : bootBuiltins x = some (.type ty)) (ha : HA X (e :: es) t) (hg : Gl X x := by rfl) (hn : x ≠ "__name__" := by decide) (hdb : (x == ("__debug__" : Str)) = false := by decide)
  (he : starEach (e :: es) X.env = (false, eval e X.env) :: starEach es X.env := by rfl) (hpl : (backTo pos (starEach es X.env)).any (·.1) = false := by rfl) : HE X (.Call (.Name x p) (e :: es) [] pos) (tCB3 r t) := fun ρ M Q h =>
 (b1p hc hg hm hv (ha.d (ρ := ρ)) hn hdb he hpl).imp fun σ H Q2 ⟨hr, hh, en⟩ => ⟨M, _, h, hr, hh, fun ts vs M1 H1 k1 h1 r1 q1 => ⟨ts, M1, Q, r1, h1, q1, en.kp k1⟩⟩
end
section
variable {X : Cx}
theorem a2a {K : PySem.W.Frag} {H : Hp} {vs : List V} {x : T} (r : Reps K H vs [x]) : ∃ v, vs = [v] ∧ Rep K H v x := by
 unfold Reps at r
 obtain ⟨v, w, rfl, h, r⟩ := r
 unfold Reps at r
 subst r
 exact ⟨v, rfl, h⟩
theorem b4G {K : PySem.W.Frag} {H : Hp} {vs : List V} {x y : T} (r : Reps K H vs [x, y]) : ∃ v w, vs = [v, w] ∧ Rep K H v x ∧ Rep K H w y := by
 unfold Reps at r
 obtain ⟨v, r', rfl, h, r⟩ := r
 obtain ⟨w, rfl, h'⟩ := a2a r
 exact ⟨v, w, rfl, h, h'⟩
noncomputable def b4O : List T → MH → VK3 → Prop := fun xs M Q => match xs with
 | [.tup ts] => Q (.int ts.length) M
 | [.rd ts] => Q (.int ts.length) M
 | [.adr p] => (match M p with | some (.lst ts) => Q (.int ts.length) M | _ => False)
 | [.str z] => z.length ≤ sizeLine ∧ Q (.int z.length) M
 | _ => False
theorem a0E : a2R X (.builtin "len") b4O := by
 intro pins s σ H vs us Q2 I r h
 obtain ⟨xs, M, Q, rr, hh, q, en⟩ := h
 unfold b4O at q
 split at q
 ·obtain ⟨v, rfl, r1⟩ := a2a rr
  obtain ⟨p, ys, rfl, g1, g2⟩ := a1e r1
  exact a3G pins s σ H _ us Q2 I r ⟨p, ys, rfl, .inr g1, by rw [g2.length]; exact en _ _ M H Kp.refl hh a0x q⟩
 ·obtain ⟨v, rfl, r1⟩ := a2a rr
  obtain ⟨p, ys, rfl, g1, g2⟩ := a5T r1
  exact a3G pins s σ H _ us Q2 I r ⟨p, ys, rfl, .inl g1.sq, by rw [g2.length]; exact en _ _ M H Kp.refl hh a0x q⟩
 ·obtain ⟨v, rfl, r1⟩ := a2a rr
  obtain rfl := a0A r1
  split at q
  ·rename_i ts e0
   obtain ⟨ys, g1, g2⟩ := hh _ _ e0
   exact a3G pins s σ H _ us Q2 I r ⟨_, ys, rfl, .inl (SqL.of g1), by rw [g2.length]; exact en _ _ M H Kp.refl hh a0x q⟩
  ·exact q.elim
 ·obtain ⟨v, rfl, r1⟩ := a2a rr
  obtain rfl := a3o r1
  exact a7V pins s σ H _ us Q2 I r ⟨_, rfl, q.1, en _ _ M H Kp.refl hh a0x q.2⟩
 ·exact q.elim
noncomputable def b4U : List T → MH → VK3 → Prop := fun xs M Q => match xs with
 | [.int i] => Q (.int i.natAbs) M
 | _ => False
theorem a3H : a2R X (.builtin "abs") b4U := by
 intro pins s σ H vs us Q2 I r h
 obtain ⟨xs, M, Q, rr, hh, q, en⟩ := h
 unfold b4U at q
 split at q
 ·rename_i i
  obtain ⟨v, rfl, r1⟩ := a2a rr
  obtain rfl := a0q r1
  refine b3J pins s σ H _ us Q2 I r ⟨_, rfl, en _ _ M H Kp.refl hh ?_ q⟩
  have e : (if i < 0 then -i else i) = (i.natAbs : Int) := by split <;> lia
  rw [e]; exact a0x
 ·exact q.elim
noncomputable def a8r : List T → MH → VK3 → Prop := fun xs M Q => match xs with
 | [.tup ts] => Q (.tup ts) M
 | [.rd ts] => Q (.tup ts) M
 | [.adr p] => (match M p with | some (.lst ts) => Q (.tup ts) M | _ => False)
 | _ => False
theorem a4e : a2R X (.type "tuple") a8r := by
 intro pins s σ H vs us Q2 I r h
 obtain ⟨xs, M, Q, rr, hh, q, en⟩ := h
 unfold a8r at q
 split at q
 ·obtain ⟨v, rfl, r1⟩ := a2a rr
  obtain ⟨p, ys, rfl, g1, g2⟩ := a1e r1
  exact a2q pins s σ H _ us Q2 I r ⟨p, ys, rfl, .inr ⟨g1, en _ _ M H Kp.refl hh r1 q⟩⟩
 ·obtain ⟨v, rfl, r1⟩ := a2a rr
  obtain ⟨p, ys, rfl, g1, g2⟩ := a5T r1
  exact a2q pins s σ H _ us Q2 I r ⟨p, ys, rfl, .inl ⟨g1.sq, fun l hl => en _ _ M _ (Kp.new hl) (hh.keep hl) (a1O (SqT.of a0u) (Reps.kp (Kp.new hl) _ _ g2)) q⟩⟩
 ·obtain ⟨v, rfl, r1⟩ := a2a rr
  obtain rfl := a0A r1
  split at q
  ·rename_i ts e0
   obtain ⟨ys, g1, g2⟩ := hh _ _ e0
   exact a2q pins s σ H _ us Q2 I r ⟨_, ys, rfl, .inl ⟨SqL.of g1, fun l hl => en _ _ M _ (Kp.new hl) (hh.keep hl) (a1O (SqT.of a0u) (Reps.kp (Kp.new hl) _ _ g2)) q⟩⟩
  ·exact q.elim
 ·exact q.elim
noncomputable def b1f : List T → MH → VK3 → Prop := fun xs M Q => match xs with
 | [.tup ts] => ∀ r, M r = none → Q (.adr r) (updM M r (.lst ts))
 | [.rd ts] => ∀ r, M r = none → Q (.adr r) (updM M r (.lst ts))
 | [.adr p] => (match M p with | some (.lst ts) => ∀ r, M r = none → Q (.adr r) (updM M r (.lst ts)) | _ => False)
 | _ => False
theorem b0A : a2R X (.type "list") b1f := by
 intro pins s σ H vs us Q2 I r h
 obtain ⟨xs, M, Q, rr, hh, q, en⟩ := h
 unfold b1f at q
 split at q
 ·obtain ⟨v, rfl, r1⟩ := a2a rr
  obtain ⟨p, ys, rfl, g1, g2⟩ := a1e r1
  exact a3F pins s σ H _ us Q2 I r ⟨p, ys, rfl, .inr g1, fun l hl => en _ _ _ _ (Kp.new hl) (hh.newL hl g2) a1r (q l (hh.free hl))⟩
 ·obtain ⟨v, rfl, r1⟩ := a2a rr
  obtain ⟨p, ys, rfl, g1, g2⟩ := a5T r1
  exact a3F pins s σ H _ us Q2 I r ⟨p, ys, rfl, .inl g1.sq, fun l hl => en _ _ _ _ (Kp.new hl) (hh.newL hl g2) a1r (q l (hh.free hl))⟩
 ·obtain ⟨v, rfl, r1⟩ := a2a rr
  obtain rfl := a0A r1
  split at q
  ·rename_i ts e0
   obtain ⟨ys, g1, g2⟩ := hh _ _ e0
   exact a3F pins s σ H _ us Q2 I r ⟨_, ys, rfl, .inl (SqL.of g1), fun l hl => en _ _ _ _ (Kp.new hl) (hh.newL hl g2) a1r (q l (hh.free hl))⟩
  ·exact q.elim
 ·exact q.elim
noncomputable def b4P : List T → MH → VK3 → Prop := fun xs M Q => match xs with
 | [.int i] => Q (.int i) M
 | [.bl k] => Q (.int (if k = true then 1 else 0)) M
 | [.str x] => ∃ n, PySem.intText? x = some n ∧ x.length ≤ 640 ∧ Q (.int n) M
 | _ => False
theorem a5u : a2R X (.type "int") b4P := by
 intro pins s σ H vs us Q2 I r h
 obtain ⟨xs, M, Q, rr, hh, q, en⟩ := h
 unfold b4P at q
 split at q
 ·obtain ⟨v, rfl, r1⟩ := a2a rr
  obtain rfl := a0q r1
  exact a7W pins s σ H _ us Q2 I r (.inl ⟨_, rfl, en _ _ M H Kp.refl hh a0x q⟩)
 ·obtain ⟨v, rfl, r1⟩ := a2a rr
  obtain rfl := a3V r1
  exact a7W pins s σ H _ us Q2 I r (.inr ⟨_, rfl, en _ _ M H Kp.refl hh a0x q⟩)
 ·obtain ⟨n, hn, hl, q⟩ := q
  obtain ⟨v, rfl, r1⟩ := a2a rr
  obtain rfl := a3o r1
  obtain ⟨u, rfl, ru⟩ := a4h r
  obtain ⟨t, rfl⟩ := ru
  exact PySem.W.KIN.call_text hn hl ⟨.int n, H, I.kept fun b o e => e, ⟨_, rfl⟩, en _ _ M H Kp.refl hh a0x q⟩
 ·exact q.elim
theorem a5J (hc : X.calm = true) : a4K X (.builtin "all") (fun xs H Q => ∃ (p : Addr) (bs : List Bool), xs = [.ref p] ∧ SqL X.K H p (bs.map V.bl) ∧ Q (.bl (bs.all id)) H) := by
 intro pins s σ H xs us Q I r h
 obtain ⟨p, bs, rfl, hq, q⟩ := h
 obtain ⟨u, rfl, rx⟩ := a4h r
 cases rx
 obtain ⟨its, r', pl, hz⟩ := I.list hq
 have hlen := r'.length
 refine call_all_walk (wpAny_pyIter_list pl.isList ?_)
 have hp : p < s.heap.objs.size := by obtain ⟨o, n, e, _⟩ := pl; exact Heap.lt_size e
 refine ⟨s.heap.objs.size, _, _, _, _, _, fun i => (bs[i]?).getD true, rfl, Walks.list (A := X.A.in1) (I.ok.hd hc) s.heap.objs.size p (Nat.ne_of_lt hp) its.toArray, ⟨⟨_, Heap.get?_push_size _ rfl, rfl, rfl⟩, pl.isList.push _⟩, ?_, fun h' tk hk => ?_⟩
 ·intro i v s' Q' E' hP hQ
  have hP' : its[i]? = some v := by simpa using hP
  have hi : i < bs.length := by
   have := (List.getElem?_eq_some_iff.mp hP').1
   rw [List.length_map] at hlen; lia
  obtain ⟨w, hw, rw'⟩ := r'.get (i := i) (x := .bl bs[i]) (by rw [List.getElem?_map, List.getElem?_eq_getElem hi] <;> rfl)
  rw [hP'] at hw; cases hw
  obtain rfl : v = Value.bool bs[i] := rw'
  refine wpAny_truthy_bool ?_
  have e : (bs[i]?).getD true = bs[i] := by rw [List.getElem?_eq_getElem hi] <;> rfl
  dsimp only at hQ; rw [e] at hQ; exact hQ
 ·have e : (List.range its.toArray.size).all (fun i => (bs[i]?).getD true) = bs.all id := by
   rw [List.length_map] at hlen
   rw [List.size_toArray, ← hlen]
   rw [Bool.eq_iff_iff]
   simp only [List.all_eq_true, List.mem_range, id]
   constructor
   ·intro h b hb
    obtain ⟨i, hi, rfl⟩ := List.getElem_of_mem hb
    have := h i hi
    rw [List.getElem?_eq_getElem hi] at this; exact this
   ·intro h i hi
    rw [List.getElem?_eq_getElem hi]; exact h _ (List.getElem_mem hi)
  rw [e]
  have I1 : Inv X pins σ H { s with heap := h', toks := tk } := I.kept fun b o eb => hk b o (by
   intro hm
   have : b = s.heap.objs.size := by simpa using hm
   rw [this] at eb
   exact absurd (Heap.lt_size eb) (Nat.lt_irrefl _)) (Heap.get?_push_of_some _ eb)
  exact ⟨.bl _, H, I1, rfl, q⟩
noncomputable def a6Q : List T → Option (List Bool)
 | [] => some []
 | .bl b :: ts => (a6Q ts).map (b :: ·)
 | _ :: _ => none
theorem a6b {K : PySem.W.Frag} {H : Hp} : ∀ {vs : List V} {ts : List T} {bs : List Bool}, Reps K H vs ts → a6Q ts = some bs → vs = bs.map V.bl
 | vs, [], bs, h, e => by unfold a6Q at e; cases e; unfold Reps at h; exact h
 | vs, t :: ts, bs, h, e => by
   unfold Reps at h
   obtain ⟨v, r, rfl, h1, h2⟩ := h
   cases t with
   | bl b =>
     unfold a6Q at e
     cases q : a6Q ts with
     | none => rw [q] at e; cases e
     | some cs =>
       rw [q] at e; cases e
       obtain rfl := a3V h1
       rw [a6b h2 q]; rfl
   | _ => unfold a6Q at e; cases e
noncomputable def b4R : List T → MH → VK3 → Prop := fun xs M Q => match xs with
 | [.adr p] => (match M p with | some (.lst ts) => (match a6Q ts with | some bs => Q (.bl (bs.all id)) M | none => False) | _ => False)
 | _ => False
theorem b2z (hc : X.calm = true) : a2R X (.builtin "all") b4R := by
 intro pins s σ H vs us Q2 I r h
 obtain ⟨xs, M, Q, rr, hh, q, en⟩ := h
 unfold b4R at q
 split at q
 ·obtain ⟨v, rfl, r1⟩ := a2a rr
  obtain rfl := a0A r1
  split at q
  ·rename_i ts e0
   obtain ⟨ys, g1, g2⟩ := hh _ _ e0
   split at q
   ·rename_i bs eb
    obtain rfl := a6b g2 eb
    exact a5J hc pins s σ H _ us Q2 I r ⟨_, bs, rfl, SqL.of g1, en _ _ M H Kp.refl hh a2N q⟩
   ·exact q.elim
  ·exact q.elim
 ·exact q.elim
inductive Ki where
 | non | bool | int | str | tup | list | dict
noncomputable def a5j : Ki → String
 | .non => "NoneType" | .bool => "bool" | .int => "int" | .str => "str" | .tup => "tuple" | .list => "list" | .dict => "dict"
noncomputable def isiK : Ki → Ki → Bool
 | .bool, .int => true
 | .non, .non => true
 | .bool, .bool => true
 | .int, .int => true
 | .str, .str => true
 | .tup, .tup => true
 | .list, .list => true
 | .dict, .dict => true
 | _, _ => false
theorem b7p (K : PySem.W.Frag) (a b : Ki) (hb : b ≠ .non) : PySem.W.kitOne K (.type (a5j a)) (.type (a5j b)) = some (isiK a b) := by
 cases b with
 | non => exact absurd rfl hb
 | _ => cases a <;> rfl
noncomputable def tyK : MH → T → Option Ki
 | _, .non => some .non
 | _, .bl _ => some .bool
 | _, .int _ => some .int
 | _, .str _ => some .str
 | _, .tup _ => some .tup
 | _, .rd _ => some .list
 | _, .dic _ _ => none
 | M, .adr p => match M p with
   | some (.lst _) => some .list
   | some (.dk _) => some .dict
   | some (.dt _) => some .dict
   | some (.fz _) => none
   | some (.fk _) => none
   | some (.ob _ _) => none
   | none => none
theorem a3W (M : MH) (p : Addr) : tyK M (.adr p) = (match M p with | some (.lst _) => some Ki.list | some (.dk _) => some Ki.dict | some (.dt _) => some Ki.dict | some (.fz _) => none | some (.fk _) => none | some (.ob _ _) => none | none => none) := rfl
theorem isi3 {pins : List (Addr × Obj)} {σ : St} {H : Hp} {s : Shared} {M : MH} {x : T} {v : V} {u : Value} {n c : Ki} {Q : Value → Shared → Prop} (I : Inv X pins σ H s) (hh : HR X.K H M) (r : Rep X.K H v x) (rv : RelV v u) (ht : tyK M x = some n) (hc : c ≠ .non)
  (h : ∀ tk, Q (.bool (isiK n c)) { s with toks := tk }) : wpAny (model X.prog X.w) X.A (call (.builtin "isinstance") [u, .type (a5j c)]) Q X.xe s := by
 have e := b7p X.K n c hc
 cases x with
 | non => obtain rfl := a8H r; cases ht; exact a2C I rv .non e h
 | bl k => obtain rfl := a3V r; cases ht; exact a2C I rv (.bl k) e h
 | int i => obtain rfl := a0q r; cases ht; exact a2C I rv (.int i) e h
 | str z => obtain rfl := a3o r; cases ht; exact a2C I rv (.str z) e h
 | tup ts =>
   obtain ⟨p, xs, rfl, g1, g2⟩ := a1e r
   cases ht
   cases rv
   obtain ⟨its, _, pt, _⟩ := I.tuple g1
   obtain ⟨o, h1, h2, _⟩ := pt
   exact PySem.W.kia_one PySem.W.kitx_tuple I.kIn ⟨o, h1, h2⟩ e (fun z => nomatch z) h
 | rd ts =>
   obtain ⟨p, xs, rfl, g1, g2⟩ := a5T r
   cases ht
   cases rv
   obtain ⟨its, _, pl, _⟩ := I.list g1.sq
   obtain ⟨o, n, h1, h2, _⟩ := pl
   exact PySem.W.kia_one PySem.W.kitx_list I.kIn ⟨o, h1, h2⟩ e (fun z => nomatch z) h
 | dic ks ts => cases ht
 | adr p =>
   obtain rfl := a0A r
   cases e0 : M p with
   | none =>
     have q : tyK M (.adr p) = none := by rw [a3W, e0]
     rw [q] at ht; cases ht
   | some o =>
     cases o with
     | lst ts =>
       have q : tyK M (.adr p) = some .list := by rw [a3W, e0]
       rw [q] at ht; cases ht
       obtain ⟨xs, g1, _⟩ := hh _ _ e0
       exact a2C I rv (.lst g1) e h
     | dk kvs =>
       have q : tyK M (.adr p) = some .dict := by rw [a3W, e0]
       rw [q] at ht; cases ht
       obtain ⟨xs, g1, _⟩ := hh _ _ e0
       exact a2C I rv (.dK g1) e h
     | dt kvs =>
       have q : tyK M (.adr p) = some .dict := by rw [a3W, e0]
       rw [q] at ht; cases ht
       obtain ⟨xs, g1, _⟩ := hh _ _ e0
       exact a2C I rv (.dT g1) e h
     | fz kvs =>
       have q : tyK M (.adr p) = none := by rw [a3W, e0]
       rw [q] at ht; cases ht
     | fk kvs =>
       have q : tyK M (.adr p) = none := by rw [a3W, e0]
       rw [q] at ht; cases ht
     | ob C fs =>
       have q : tyK M (.adr p) = none := by rw [a3W, e0]
       rw [q] at ht; cases ht
noncomputable def tIsi (c : Ki) (ta : TE3) : TE3 := fun ρ M Q => ta ρ M fun x M1 => match tyK M1 x with
 | some n => Q (.bl (isiK n c)) M1
 | none => False
theorem b3A {e : Expr} {te : TE3} {y : Str} {p p' pos : Pos} (c : Ki) (he : HE X e te) (hm : X.mg "isinstance" = none) (hm' : X.mg y = none) (hv : bootBuiltins y = some (.type (a5j c))) (hc : c ≠ .non := by intro z; cases z) (hg : Gl X "isinstance" := by rfl) (hg' : Gl X y := by rfl) (hn : y ≠ "__name__" := by decide)
  (hdb : (y == ("__debug__" : Str)) = false := by decide) (hs : starEach [e, .Name y p'] X.env = (false, eval e X.env) :: starEach [.Name y p'] X.env := by rfl) (hs2 : starEach [.Name y p'] X.env = (false, eval (.Name y p') X.env) :: starEach [] X.env := by rfl)
  (hpl : (backTo pos (starEach [.Name y p'] X.env)).any (·.1) = false := by rfl) :
  HE X (.Call (.Name "isinstance" p) [e, .Name y p'] [] pos) (tIsi c te) := by
 intro ρ M Q h pins s σ H Q2 I b
 obtain ⟨hr, hh, en⟩ := b
 have pa := a8u (X := X) (he.d (ρ := ρ)) (a8u (b5h (v := .ty (a5j c)) (pos := p') hg' hm' hv rfl hn hdb) b4b hs2) hs
 refine wpAny_Call_Name_kw (a2Z I hg hm boot_isinstance ?_ (by decide) (by decide))
 refine PyProof.Rows.callWith_builtin1 (thn (pa pos pins s σ H (fun vs H1 => ∃ v t M1, vs = [v, .ty (a5j c)] ∧ Rep X.K H1 v t ∧ HR X.K H1 M1 ∧ Kp X.K H H1 ∧ (match tyK M1 t with
 | some n => Q (.bl (isiK n c)) M1
 | none => False)) I ⟨M, _, h, hr, hh, fun t v M1 H1 k1 h1 r1 q1 => ⟨v, t, M1, rfl, r1, h1, k1, q1⟩⟩) fun us s1 ⟨vs, H1, I1, rv, v, t, M1, ev, r1, h1, k1, q1⟩ => ?_) hs hpl
 subst ev
 obtain ⟨u, w', rfl, ru, rw'⟩ := b4u rv
 obtain rfl : w' = Value.type (a5j c) := rw'
 split at q1
 ·rename_i n e1
  exact isi3 I1 h1 r1 ru e1 hc fun tk => ⟨.bl _, H1, I1.tok _, rfl, en _ _ M1 H1 k1 h1 a2N q1⟩
 ·exact q1.elim
end
section
variable {X : Cx} {a b c e : Expr} {st : Stmt} {rest ba bb body : List Stmt} {ta tb te : TE3} {tA : TT3} {t u : TS3} {pos : Pos}
noncomputable def b3S : TS3 := fun D ρ M => D.nx ρ M
noncomputable def a9Z (t u : TS3) : TS3 := fun D ρ M => t { D with nx := u D } ρ M
theorem EndS.nx' {K : PySem.W.Frag} {H : Hp} {D : Ends3} {D2 : Ends} {t : TS3} (h : EndS K H D D2) : EndS K H { D with nx := t D } { D2 with nx := dS K t D2 } :=
 ⟨fun ρ' M' σ' H' k r hh q => ⟨D, ρ', M', q, r, hh, h.kp k⟩, h.rt, h.bk, h.ct⟩
theorem a2y : HSs X [] b3S := fun D ρ M h => b5a.imp fun D2 σ H ⟨hr, hh, en⟩ => en.nx ρ M σ H Kp.refl hr hh h
theorem a0c (h1 : HS X st t) (h2 : HSs X rest u) : HSs X (st :: rest) (a9Z t u) := fun D ρ M h =>
 (b3b h1.d h2.d).imp fun D2 σ H ⟨hr, hh, en⟩ => ⟨{ D with nx := u D }, ρ, M, h, hr, hh, en.nx'⟩
theorem a0h (h1 : HS X st t) : HSs X [st] t := fun D ρ M h => b4Z (h1 D ρ M h)
noncomputable def b6h (te : TE3) : TS3 := fun D ρ M => te ρ M D.rt
theorem a1a (he : HE X e te) : HS X (.Return (some e) pos) (b6h te) := fun D ρ M h =>
 (b6M (he.d (ρ := ρ))).imp fun D2 σ H ⟨hr, hh, en⟩ => ⟨M, _, h, hr, hh, en.rt⟩
noncomputable def b6m (c : TT3) (t u : TS3) : TS3 := fun D ρ M => c ρ M fun b M1 => if b = true then t D ρ M1 else u D ρ M1
theorem s_if (hc : HT X c tA) (ha : HSs X ba t) (hb : HSs X bb u) : HS X (.If c ba bb pos) (b6m tA t u) := fun D ρ M h =>
 (b8n (hc.d (ρ := ρ)) ha.d hb.d).imp fun D2 σ H ⟨hr, hh, en⟩ => ⟨M, _, h, hr, hh, fun b M1 H1 k1 h1 q1 => by
  dsimp only at q1 ⊢
  split
  ·rename_i hb; rw [if_pos hb] at q1
   exact ⟨D, ρ, M1, q1, hr.kp k1, h1, en.kp k1⟩
  ·rename_i hb; rw [if_neg hb] at q1
   exact ⟨D, ρ, M1, q1, hr.kp k1, h1, en.kp k1⟩⟩
noncomputable def b4z : TS3 := fun _ _ _ => False
theorem b1a : HS X st b4z := fun _ _ _ h => h.elim
noncomputable def b3U (te : TE3) : TS3 := fun D ρ M => te ρ M fun _ M1 => D.nx ρ M1
theorem a2U (he : HE X e te) (hs : swapsWith e none pos.line X.env = pure false := by rfl) : HS X (.Expr e pos) (b3U te) := fun D ρ M h =>
 (b5c (he.d (ρ := ρ)) hs).imp fun D2 σ H ⟨hr, hh, en⟩ => ⟨M, _, h, hr, hh, fun x v M1 H1 k1 h1 r1 q1 => en.nx ρ M1 σ H1 k1 (hr.kp k1) h1 q1⟩
noncomputable def b4y (i : Nat) (te : TE3) : TS3 := fun D ρ M => te ρ M fun x M1 => D.nx (ρ.set i (some x)) M1
theorem a0D {i : Nat} {x : Str} {pos' : Pos} (he : HE X e te) (hN : X.N.Nodup) (hi : X.N[i]? = some x := by rfl) (hx : Loc X.env.scope x := by first | exact Or.inl rfl | exact Or.inr rfl) (hs : swapsWith e (some (.Name x pos')) pos.line X.env = pure false := by rfl)
  (hf : X.fn x = true ∨ X.env.scope.names.lookup x = some .local := by first | exact .inl rfl | exact .inr rfl | assumption) : HS X (.Assign [.Name x pos'] e pos) (b4y i te) := fun D ρ M h =>
 (b6L hN hi hx (he.d (ρ := ρ)) hs hf).imp fun D2 σ H ⟨hr, hh, en⟩ => ⟨M, _, h, hr, hh, fun t v M1 H1 k1 h1 r1 q1 => en.nx _ M1 _ H1 k1 ((hr.kp k1).set i r1) h1 q1⟩
noncomputable abbrev TG3 := T → En → MH → (En → MH → Prop) → Prop
noncomputable abbrev TGs3 := List T → En → MH → (En → MH → Prop) → Prop
noncomputable def EndG (K : PySem.W.Frag) (H : Hp) (Q : En → MH → Prop) (Q2 : St → Hp → Prop) : Prop := ∀ ρ' M' σ' H', Kp K H H' → RhoR K σ' H' ρ' → HR K H' M' → Q ρ' M' → Q2 σ' H'
noncomputable def dG (K : PySem.W.Frag) (g : TG3) : TG := fun v σ H Q2 => ∃ t ρ M Q, g t ρ M Q ∧ Rep K H v t ∧ RhoR K σ H ρ ∧ HR K H M ∧ EndG K H Q Q2
noncomputable def dGs (K : PySem.W.Frag) (g : TGs3) : TGs := fun vs σ H Q2 => ∃ ts ρ M Q, g ts ρ M Q ∧ Reps K H vs ts ∧ RhoR K σ H ρ ∧ HR K H M ∧ EndG K H Q Q2
noncomputable def HG (X : Cx) (tg : Expr) (g : TG3) : Prop := PG X tg (dG X.K g)
noncomputable def HGs (X : Cx) (tgs : List Expr) (g : TGs3) : Prop := PGs X tgs (dGs X.K g)
noncomputable def a7I (i : Nat) : TG3 := fun t ρ M Q => Q (ρ.set i (some t)) M
theorem PG.imp {tg : Expr} {g g' : TG} (h : PG X tg g) (f : ∀ v σ H Q, g' v σ H Q → g v σ H Q) : PG X tg g' := fun pins s σ H v u Q I r q => h pins s σ H v u Q I r (f v σ H Q q)
theorem PGs.imp {tg : List Expr} {g g' : TGs} (h : PGs X tg g) (f : ∀ v σ H Q, g' v σ H Q → g v σ H Q) : PGs X tg g' := fun pins s σ H v u Q I r q => h pins s σ H v u Q I r (f v σ H Q q)
theorem a0J {i : Nat} {x : Str} (hN : X.N.Nodup) (hi : X.N[i]? = some x := by rfl) (hx : Loc X.env.scope x := by first | exact Or.inl rfl | exact Or.inr rfl) (hf : X.fn x = true ∨ X.env.scope.names.lookup x = some .local := by first | exact .inl rfl | exact .inr rfl | assumption) : HG X (.Name x pos) (a7I i) :=
 (a2b hN hi hx hf).imp fun v σ H Q2 ⟨t, ρ, M, Q, q, r, hr, hh, en⟩ => en _ M _ H Kp.refl (hr.set i r) hh q
noncomputable def b5F : TGs3 := fun ts ρ M Q => ts = [] ∧ Q ρ M
noncomputable def a7K (g : TG3) (gs : TGs3) : TGs3 := fun ts ρ M Q => match ts with
 | t :: r => g t ρ M fun ρ1 M1 => gs r ρ1 M1 Q
 | [] => False
theorem a4H : HGs X [] b5F := a8t.imp fun v σ H Q2 ⟨ts, ρ, M, Q, ⟨e, q⟩, r, hr, hh, en⟩ => by
 subst e
 unfold Reps at r
 exact ⟨r, en ρ M σ H Kp.refl hr hh q⟩
theorem a1m {es : List Expr} {g : TG3} {gs : TGs3} (h1 : HG X e g) (h2 : HGs X es gs) (hs : (assignEach (e :: es) X.env).map (·.2) = assign e X.env :: (assignEach es X.env).map (·.2) := by rfl) : HGs X (e :: es) (a7K g gs) :=
 (a4r h1 h2 hs).imp fun vs σ H Q2 ⟨ts, ρ, M, Q, q, r, hr, hh, en⟩ => by
  unfold a7K at q
  split at q
  ·rename_i t r'
   unfold Reps at r
   obtain ⟨v, vr, rfl, r1, r2⟩ := r
   exact ⟨v, vr, rfl, t, ρ, M, _, q, r1, hr, hh, fun ρ' M' σ' H' k hr' hh' q' => ⟨r', ρ', M', Q, q', Reps.kp k _ _ r2, hr', hh', fun ρ2 M2 σ2 H2 k2 => en ρ2 M2 σ2 H2 (k.trans k2)⟩⟩
  ·exact q.elim
noncomputable def b1Y (n : Nat) (gs : TGs3) : TG3 := fun t ρ M Q => match t with
 | .tup ts => ts.length = n ∧ gs ts ρ M Q
 | _ => False
theorem a7H {es : List Expr} {k : Nat} {gs : TGs3} {n : Nat} (hc : X.calm = true) (h : HGs X es gs) (hn : (assignEach es X.env).length = n := by rfl) (hst : (assignEach es X.env).findIdx? (·.1) = none := by rfl) : HG X (.Tuple es k pos) (b1Y n gs) :=
 (b1m hc h hn hst).imp fun v σ H Q2 ⟨t, ρ, M, Q, q, r, hr, hh, en⟩ => by
  unfold b1Y at q
  split at q
  ·rename_i ts
   obtain ⟨a, xs, rfl, g1, g2⟩ := a1e r
   exact ⟨a, xs, rfl, g1, by rw [g2.length]; exact q.1, ts, ρ, M, Q, q.2, g2, hr, hh, en⟩
  ·exact q.elim
noncomputable def b7E (to ti : TE3) : TG3 := fun v ρ M Q => to ρ M fun o M1 => ti ρ M1 fun i M2 => match o, i with
 | .adr p, .int k => (match M2 p with
   | some (.lst ts) => (match ixN ts.length k with | some j => Q ρ (updM M2 p (.lst (ts.set j v))) | none => False)
   | _ => False)
 | _, _ => False
theorem a5G {o i : Expr} {to ti : TE3} (ho : HE X o to) (hi : HE X i ti)
  (ha : ∀ v, assign (.Subscript o i pos) X.env v = (do
   let ov ← holding [v] (eval o X.env)
   let iv ← holding [v, ov] (eval i X.env)
   standAt pos
   holding [v, ov, iv] (setItem ov iv v)
   release [v, ov, iv] []) := by intro _; rfl) : HG X (.Subscript o i pos) (b7E to ti) := by
 intro pins s σ H v u Q2 I r h
 obtain ⟨t, ρ, M, Q, q, rt, hr, hh, en⟩ := h
 refine b6R (ho.d (ρ := ρ)) (hi.d (ρ := ρ)) b2O ha pins s σ H v u Q2 I r ?_
 refine ⟨M, _, q, hr, hh, fun ot ov M1 H1 k1 h1 r1 q1 => ⟨M1, _, q1, hr.kp k1, h1, fun it iv M2 H2 k2 h2 r2 q2 => ?_⟩⟩
 dsimp only at q2
 split at q2
 ·obtain rfl := a0A r1
  obtain rfl := a0q r2
  split at q2
  ·rename_i ts e0
   obtain ⟨xs, g1, g2⟩ := h2 _ _ e0
   split at q2
   ·rename_i j ej
    have kk := k1.trans k2
    refine ⟨_, xs, _, j, rfl, rfl, g1, by rw [g2.length]; exact ej, en _ _ σ _ (kk.trans (Kp.lst g1)) (hr.kp (kk.trans (Kp.lst g1))) (h2.setL g1 (g2.set (Rep.kp kk _ _ rt) j)) q2⟩
   ·exact q2.elim
  ·exact q2.elim
 ·exact q2.elim
noncomputable def b6u (te : TE3) (g : TG3) : TS3 := fun D ρ M => te ρ M fun x M1 => g x ρ M1 D.nx
theorem a4W {tg : Expr} {g : TG3} (he : HE X e te) (hg : HG X tg g) (hs : swapsWithSole [tg] e pos.line X.env = pure false := by rfl) (hw : swappedStores [tg] e X.env = pure none := by rfl)
  (h1 : (assignEach [tg] X.env).map (·.2) = [assign tg X.env] := by rfl) : HS X (.Assign [tg] e pos) (b6u te g) := fun D ρ M h =>
 (b6P (he.d (ρ := ρ)) hg hs hw h1).imp fun D2 σ H ⟨hr, hh, en⟩ => ⟨M, _, h, hr, hh, fun t v M1 H1 k1 h1 r1 q1 => ⟨t, ρ, M1, D.nx, q1, r1, hr.kp k1, h1, fun ρ' M' σ' H' k r hh' q => en.nx ρ' M' σ' H' (k1.trans k) r hh' q⟩⟩
structure It3 where
 items : List T
 stay : MH → Prop := fun _ => True
noncomputable abbrev TI3 := En → MH → (It3 → MH → Prop) → Prop
structure ItOk (K : PySem.W.Frag) (H : Hp) (J2 : It) (J : It3) : Prop where
 stop : ∀ H' M', Kp K H H' → HR K H' M' → J.stay M' → J2.stop J.items.length H'
 go : ∀ (i : Nat) (x : T) H' M', J.items[i]? = some x → Kp K H H' → HR K H' M' → J.stay M' → J2.go i H' ∧ ∀ v H'', J2.yld i H' v H'' → Kp K H' H'' ∧ HR K H'' M' ∧ Rep K H'' v x
noncomputable def HI (X : Cx) (tg iter : Expr) (wi : TI3) : Prop := ∀ ρ M R, wi ρ M R → PI X tg iter (fun σ H R2 => RhoR X.K σ H ρ ∧ HR X.K H M ∧ ∀ J J2 M' H', Kp X.K H H' → HR X.K H' M' → ItOk X.K H' J2 J → R J M' → R2 J2 H')
noncomputable def dI (K : PySem.W.Frag) (ρ : En) (wi : TI3) : TI := fun σ H R2 => ∃ M R, wi ρ M R ∧ RhoR K σ H ρ ∧ HR K H M ∧ ∀ J J2 M' H', Kp K H H' → HR K H' M' → ItOk K H' J2 J → R J M' → R2 J2 H'
theorem HI.d {tg iter : Expr} {wi : TI3} {ρ : En} (h : HI X tg iter wi) : PI X tg iter (dI X.K ρ wi) := fun pins s σ H R I ⟨M, R3, q, b⟩ => h ρ M R3 q pins s σ H R I b
theorem PI.imp {tg iter : Expr} {w w' : TI} (h : PI X tg iter w) (f : ∀ σ H R, w' σ H R → w σ H R) : PI X tg iter w' := fun pins s σ H R I q => h pins s σ H R I (f σ H R q)
noncomputable def b7x (tl : TE3) : TI3 := fun ρ M R => tl ρ M fun x M1 => match x with
 | .tup ts => R ⟨ts, fun _ => True⟩ M1
 | .adr p => (match M1 p with | some (.lst ts) => R ⟨ts, fun M' => M' p = some (.lst ts)⟩ M1 | _ => False)
 | _ => False
theorem b3t {K : PySem.W.Frag} {H : Hp} {a : Addr} {xs : List V} {ts : List T} (h : SqT K H a xs) (r : Reps K H xs ts) : ItOk K H (Itt K a) ⟨ts, fun _ => True⟩ := by
 refine ⟨fun H' M' k hh _ => ⟨xs, k.tup _ _ h, by rw [r.length]; exact Nat.le_refl _⟩, fun i x H' M' e k hh _ => ?_⟩
 obtain ⟨v, e1, r1⟩ := r.get e
 refine ⟨⟨xs, v, k.tup _ _ h, e1⟩, fun v' H'' y => ?_⟩
 obtain ⟨rfl, y⟩ := y
 have := y xs (k.tup _ _ h)
 rw [e1] at this; cases this
 exact ⟨Kp.refl, hh, Rep.kp k _ _ r1⟩
theorem b3u {K : PySem.W.Frag} {H : Hp} {a : Addr} {ts : List T} : ItOk K H (Itl K a) ⟨ts, fun M' => M' a = some (.lst ts)⟩ := by
 refine ⟨fun H' M' k hh st => ?_, fun i x H' M' e k hh st => ?_⟩
 ·obtain ⟨xs, g1, g2⟩ := hh _ _ st
  exact ⟨xs, SqL.of g1, by rw [g2.length]; exact Nat.le_refl _⟩
 ·obtain ⟨xs, g1, g2⟩ := hh _ _ st
  obtain ⟨v, e1, r1⟩ := g2.get e
  refine ⟨⟨xs, v, SqL.of g1, e1⟩, fun v' H'' y => ?_⟩
  obtain ⟨rfl, y⟩ := y
  have := y xs (SqL.of g1)
  rw [e1] at this; cases this
  exact ⟨Kp.refl, hh, r1⟩
noncomputable def a1b (lo : Int) (n : Nat) : List T := (List.range n).map fun i => T.int (lo + (i : Nat))
theorem b0p {K : PySem.W.Frag} {H : Hp} {lo : Int} {n : Nat} : ItOk K H (Itr lo n) ⟨a1b lo n, fun _ => True⟩ := by
 have hl : (a1b lo n).length = n := by unfold a1b; simp
 refine ⟨fun H' M' k hh _ => by show n ≤ (a1b lo n).length; rw [hl]; exact Nat.le_refl _, fun i x H' M' e k hh _ => ?_⟩
 have hi : i < n := by have := (List.getElem?_eq_some_iff.mp e).1; rwa [hl] at this
 have ex : x = .int (lo + (i : Nat)) := by
  unfold a1b at e
  rw [List.getElem?_map, List.getElem?_range hi] at e
  exact (Option.some.inj e).symm
 subst ex
 refine ⟨hi, fun v H'' y => ?_⟩
 obtain ⟨rfl, rfl⟩ := y
 exact ⟨Kp.refl, hh, a0x⟩
theorem a3P {tg l : Expr} {tl : TE3} (hl : HE X l tl) : HI X tg l (b7x tl) := by
 intro ρ M R h pins s σ H R2 I b
 obtain ⟨hr, hh, en⟩ := b
 refine thn (hl ρ M _ h pins s σ H (fun v H1 => ∃ t M1, Kp X.K H H1 ∧ HR X.K H1 M1 ∧ Rep X.K H1 v t ∧ (match t with
  | .tup ts => R ⟨ts, fun _ => True⟩ M1
  | .adr p => (match M1 p with | some (.lst ts) => R ⟨ts, fun M' => M' p = some (.lst ts)⟩ M1 | _ => False)
  | _ => False)) I ⟨hr, hh, fun t v M1 H1 k1 h1 r1 q1 => ⟨t, M1, k1, h1, r1, q1⟩⟩) fun v s1 ⟨x, H1, I1, rv, t, M1, k1, h1, r1, q1⟩ => ?_
 split at q1
 ·rename_i ts
  obtain ⟨a, xs, rfl, g1, g2⟩ := a1e r1
  cases rv
  obtain ⟨its, rv, p, hz⟩ := I1.tuple g1
  refine wpAny_pyIter_tuple (show s1.heap.IsTuple a its.toArray from p) ?_
  refine ⟨s1.heap.objs.size, [s1.heap.objs.size], _, _, H1, rfl, I1.kept (t' := s1.toks) fun b o e => Heap.get?_push_of_some _ e, a9U a _, ⟨_, Heap.get?_push_size _ rfl, rfl, rfl⟩, fun b hb => ?_, en _ _ M1 H1 k1 h1 (b3t g1 g2) q1⟩
  have e : b = s1.heap.objs.size := by simpa using hb
  subst e
  exact I1.fpOk (Nat.le_refl _) (I1.hok.fresh (Nat.le_refl _))
 ·rename_i a
  obtain rfl := a0A r1
  cases rv
  split at q1
  ·rename_i ts e0
   obtain ⟨xs, g1, g2⟩ := h1 _ _ e0
   obtain ⟨its, rv, p, hz⟩ := I1.list (SqL.of g1)
   refine wpAny_pyIter_list p.isList ?_
   refine ⟨s1.heap.objs.size, [s1.heap.objs.size], _, _, H1, rfl, I1.kept (t' := s1.toks) fun b o e => Heap.get?_push_of_some _ e, b0D a _, ⟨_, Heap.get?_push_size _ rfl, rfl, rfl⟩, fun b hb => ?_, en _ _ M1 H1 k1 h1 b3u q1⟩
   have e : b = s1.heap.objs.size := by simpa using hb
   subst e
   exact I1.fpOk (Nat.le_refl _) (I1.hok.fresh (Nat.le_refl _))
  ·exact q1.elim
 ·exact q1.elim
noncomputable def b1U (t : TA3) : TI3 := fun ρ M R => t ρ M fun xs M1 => match xs with
 | [.int j] => -(2 ^ 62) ≤ j ∧ j < 2 ^ 62 ∧ R ⟨a1b 0 j.toNat, fun _ => True⟩ M1
 | _ => False
noncomputable def b5z (t : TA3) : TI3 := fun ρ M R => t ρ M fun xs M1 => match xs with
 | [.int i, .int j] => (-(2 ^ 62) ≤ i ∧ i < 2 ^ 62 ∧ -(2 ^ 62) ≤ j ∧ j < 2 ^ 62) ∧ R ⟨a1b i (j - i).toNat, fun _ => True⟩ M1
 | _ => False
theorem a1U {tg : Expr} {t : TA3} {p : Pos} (hm : X.mg "range" = none) (ha : HA X [a] t) (hg : Gl X "range" := by rfl) (hs : starEach [a] X.env = [(false, eval a X.env)] := by rfl) : HI X tg (.Call (.Name "range" p) [a] [] pos) (b1U t) := fun ρ M R h =>
 (b1l hg hm (ha.d (ρ := ρ)) hs).imp fun σ H R2 ⟨hr, hh, en⟩ => ⟨M, _, h, hr, hh, fun ts vs M1 H1 k1 h1 r1 q1 => by
  dsimp only at q1
  split at q1
  ·rename_i j
   obtain ⟨v, rfl, rv⟩ := a2a r1
   obtain rfl := a0q rv
   exact ⟨j, rfl, q1.1, q1.2.1, en _ _ M1 H1 k1 h1 b0p q1.2.2⟩
  ·exact q1.elim⟩
noncomputable def a2g (wi : TI3) (g : TG3) (tb : TS3) : TS3 := fun D ρ M => wi ρ M fun J M1 => ∃ W : Nat → En → MH → Prop, W 0 ρ M1 ∧ (∀ i ρ M, W i ρ M → J.stay M) ∧
 (∀ i x ρ M, J.items[i]? = some x → W i ρ M → g x ρ M fun ρ2 M2 => tb { D with nx := W (i + 1), ct := W (i + 1), bk := D.nx } ρ2 M2) ∧ ∀ ρ M, W J.items.length ρ M → D.nx ρ M
theorem a2H {tg iter : Expr} {wi : TI3} {g : TG3} {tb : TS3} (hp : PassesOwn (model X.prog X.w) X.A X.env X.xe) (hc : X.calm = true) (hi : HI X tg iter wi) (hg : HG X tg g) (hb : HSs X body tb)
  (hs : ∀ x, foldedSetIterable iter X.env x = pure x := by intro _; rfl) : HS X (.For tg iter body [] pos) (a2g wi g tb) := fun D ρ0 M0 h =>
 (b6N hp hc (hi.d (ρ := ρ0)) hg hb.d hs).imp fun D2 σ0 H0 ⟨hr0, hh0, en⟩ => ⟨M0, _, h, hr0, hh0, fun J J2 M1 H1 k1 h1 ok q1 => by
  obtain ⟨W, w0, wst, turn, fin⟩ := q1
  refine ⟨fun i m σ H => m = J.items.length - i ∧ i ≤ J.items.length ∧ Kp X.K H1 H ∧ ∃ ρ M, RhoR X.K σ H ρ ∧ HR X.K H M ∧ W i ρ M, ⟨_, rfl, Nat.zero_le _, Kp.refl, ρ0, M1, hr0.kp k1, h1, w0⟩, ?_⟩
  rintro i m σ H ⟨rfl, hi, kk, ρ, M, hr, hh, w⟩
  have st := wst i ρ M w
  by_cases hlt : i < J.items.length
  ·have e : J.items[i]? = some J.items[i] := List.getElem?_eq_getElem hlt
   obtain ⟨go, yl⟩ := ok.go i _ H M e kk hh st
   refine .inr ⟨go, fun σ' H' => i + 1 ≤ J.items.length ∧ Kp X.K H1 H' ∧ ∃ ρ M, RhoR X.K σ' H' ρ ∧ HR X.K H' M ∧ W (i + 1) ρ M, fun σ' H' ⟨a, b, c⟩ => ⟨_, by lia, rfl, a, b, c⟩, fun v H' y => ?_⟩
   obtain ⟨k2, h2, r2⟩ := yl v H' y
   refine ⟨J.items[i], ρ, M, _, turn i _ ρ M e w, r2, hr.kp k2, h2, fun ρ3 M3 σ3 H3 k3 hr3 hh3 q3 => ⟨_, ρ3, M3, q3, hr3, hh3, ?_⟩⟩
   have kall := kk.trans (k2.trans k3)
   refine ⟨fun ρ4 M4 σ4 H4 k4 hr4 hh4 q4 => ⟨hlt, kall.trans k4, ρ4, M4, hr4, hh4, q4⟩, fun t v M4 H4 k4 h4 r4 q4 => en.rt t v M4 H4 (k1.trans (kall.trans k4)) h4 r4 q4, fun ρ4 M4 σ4 H4 k4 hr4 hh4 q4 => en.nx ρ4 M4 σ4 H4 (k1.trans (kall.trans k4)) hr4 hh4 q4, fun ρ4 M4 σ4 H4 k4 hr4 hh4 q4 => ⟨hlt, kall.trans k4, ρ4, M4, hr4, hh4, q4⟩⟩
  ·have e : i = J.items.length := by lia
   subst e
   exact .inl ⟨ok.stop H M kk hh st, en.nx ρ M σ H (k1.trans kk) hr hh (fin ρ M w)⟩⟩
noncomputable def a4S (c : TT3) (tb : TS3) : TS3 := fun D ρ M => ∃ W : Nat → En → MH → Prop, (∃ m, W m ρ M) ∧ ∀ m ρ M, W m ρ M →
 c ρ M fun b M1 => if b = true then tb { D with nx := fun ρ' M' => ∃ m', m' < m ∧ W m' ρ' M', ct := fun ρ' M' => ∃ m', m' < m ∧ W m' ρ' M', bk := D.nx } ρ M1 else D.nx ρ M1
theorem b0Z {c : Expr} {tc : TT3} {tb : TS3} (hp : PassesOwn (model X.prog X.w) X.A X.env X.xe) (hc : HT X c tc) (hb : HSs X body tb) : HS X (.While c body [] pos) (a4S tc tb) := by
 intro D ρ0 M0 h pins s σ H D2 I b
 obtain ⟨hr0, hh0, en⟩ := b
 obtain ⟨W, ⟨m0, w0⟩, turn⟩ := h
 refine wpAny_While (codeAny_whileLoop (fun n s' => ∃ σ' H' ρ M, Inv X pins σ' H' s' ∧ Kp X.K H H' ∧ RhoR X.K σ' H' ρ ∧ HR X.K H' M ∧ W n ρ M) ?_ m0 ⟨σ, H, ρ0, M0, I, Kp.refl, hr0, hh0, w0⟩)
 rintro n s1 ⟨σ1, H1, ρ, M, I1, k1, hr, hh, w1⟩
 refine wpAny_passesOwn hp (thn (hc ρ M _ (turn n ρ M w1) pins s1 σ1 H1 (fun b H2 => ∃ M2, Kp X.K H1 H2 ∧ HR X.K H2 M2 ∧ (if b = true then tb { D with nx := fun ρ' M' => ∃ m', m' < n ∧ W m' ρ' M', ct := fun ρ' M' => ∃ m', m' < n ∧ W m' ρ' M', bk := D.nx } ρ M2 else D.nx ρ M2)) I1 ⟨hr, hh, fun b M2 H2 k2 h2 q2 => ⟨M2, k2, h2, q2⟩⟩) fun b s2 ⟨H2, I2, M2, k2, h2, q2⟩ => ?_)
 have kk := k1.trans k2
 cases b with
 | true =>
   rw [if_pos rfl] at q2
   rw [if_pos rfl]
   refine wpAny_passesOwn hp (thn (hb _ ρ M2 q2 pins s2 σ1 H2 { nx := fun σ' H' => ∃ ρ' M', Kp X.K H2 H' ∧ RhoR X.K σ' H' ρ' ∧ HR X.K H' M' ∧ ∃ m', m' < n ∧ W m' ρ' M', rt := D2.rt, bk := D2.nx, ct := fun σ' H' => ∃ ρ' M', Kp X.K H2 H' ∧ RhoR X.K σ' H' ρ' ∧ HR X.K H' M' ∧ ∃ m', m' < n ∧ W m' ρ' M' } I2
    ⟨hr.kp k2, h2, ⟨fun ρ' M' σ' H' k r hh' q => ⟨ρ', M', k, r, hh', q⟩, en.rt.kp kk, fun ρ' M' σ' H' k r hh' q => en.nx ρ' M' σ' H' (kk.trans k) r hh' q, fun ρ' M' σ' H' k r hh' q => ⟨ρ', M', k, r, hh', q⟩⟩⟩) fun f s3 q3 => ?_)
   cases f with
   | next =>
     obtain ⟨σ3, H3, I3, ρ', M', k3, r3, h3, m', hm, w3⟩ := q3
     exact ⟨m', hm, σ3, H3, ρ', M', I3, kk.trans k3, r3, h3, w3⟩
   | cont =>
     obtain ⟨σ3, H3, I3, ρ', M', k3, r3, h3, m', hm, w3⟩ := q3
     exact ⟨m', hm, σ3, H3, ρ', M', I3, kk.trans k3, r3, h3, w3⟩
   | brk => exact q3
   | ret v => exact q3
 | false =>
   rw [if_neg Bool.false_ne_true] at q2
   rw [if_neg Bool.false_ne_true]
   exact wpAny_execs_nil ⟨σ1, H2, I2, en.nx ρ M2 σ1 H2 kk (hr.kp k2) h2 q2⟩
noncomputable def a6q (ix : List (Option Nat)) (ρ : En) : En := ix.map fun o => match o with | some j => (ρ[j]?).join | none => none
theorem b2R {K : PySem.W.Frag} {σ : St} {H : Hp} {ρ : En} (ix : List (Option Nat)) (h : RhoR K σ H ρ) : RhoR K (pick ix σ) H (a6q ix ρ) := by
 refine ⟨by unfold pick a6q; simp, fun i t e => ?_⟩
 unfold a6q at e
 unfold pick
 rw [List.getElem?_map] at e ⊢
 cases hx : ix[i]? with
 | none => rw [hx] at e; cases e
 | some o =>
   rw [hx] at e
   cases o with
   | none =>
     have e' : (none : Option T) = some t := Option.some.inj e
     cases e'
   | some j =>
     have e' : (ρ[j]?).join = some t := Option.some.inj e
     cases hj : ρ[j]? with
     | none => rw [hj] at e'; cases e'
     | some u =>
       rw [hj] at e'
       have e2 : u = some t := e'
       subst e2
       obtain ⟨v, a, b⟩ := h.2 j t hj
       exact ⟨v, by show some ((σ[j]?).join) = some (some v); rw [a] <;> rfl, b⟩
noncomputable def a8Z (wi : TI3) (ix : List (Option Nat)) (g : TG3) (tt : TT3) (te : TE3) : TE3 := fun ρ M Q => wi ρ M fun J M1 => ∃ W : Nat → List T → MH → Prop, W 0 [] M1 ∧ (∀ i ys M, W i ys M → J.stay M) ∧ J.items.length < sizeLine ∧
 (∀ i x ys M, J.items[i]? = some x → W i ys M → g x (a6q ix ρ) M fun ρ2 M2 => tt ρ2 M2 fun ok M3 => if ok = true then te ρ2 M3 fun y M4 => W (i + 1) (ys ++ [y]) M4 else W (i + 1) ys M3) ∧
 ∀ ys M, W J.items.length ys M → ∀ p, M p = none → Q (.adr p) (updM M p (.lst ys))
noncomputable def HTs (X : Cx) (ifs : List Expr) (t : TT3) : Prop := ∀ ρ M Q, t ρ M Q → PTs X ifs (bT X.K ρ M Q)
noncomputable def b6d : TT3 := fun _ M Q => Q true M
theorem a4E : HTs X [] b6d := fun ρ M Q h pins s σ H Q2 I ⟨hr, hh, en⟩ => b4X pins s σ H Q2 I (en true M H Kp.refl hh h)
theorem b6a {c : Expr} {t : TT3} (h : HT X c t) : HTs X [c] t := fun ρ M Q q => b4W (h ρ M Q q)
end
noncomputable def dEx (K : PySem.W.Frag) (t : TE3) : TE := fun σ H Q2 => ∃ ρ M Q, t ρ M Q ∧ bE K ρ M Q σ H Q2
noncomputable def dTx (K : PySem.W.Frag) (t : TT3) : TT := fun σ H Q2 => ∃ ρ M Q, t ρ M Q ∧ bT K ρ M Q σ H Q2
section
variable {X : Cx} {e : Expr}
theorem HE.dx {t : TE3} (h : HE X e t) : PE X e (dEx X.K t) := fun pins s σ H Q I ⟨ρ, M, Q3, q, b⟩ => h ρ M Q3 q pins s σ H Q I b
theorem HTs.dx {ifs : List Expr} {t : TT3} (h : HTs X ifs t) : PTs X ifs (dTx X.K t) := fun pins s σ H Q I ⟨ρ, M, Q3, q, b⟩ => h ρ M Q3 q pins s σ H Q I b
structure BTg (K : PySem.W.Frag) (ix : List (Option Nat)) (g2 : TG) (g3 : TG3) : Prop where
 own : Own ix g2
 br : ∀ (t : T) (v : V) (ρ : En) (M : MH) (σ : St) (H : Hp) (Q3 : En → MH → Prop) (Q2 : St → Hp → Prop), Rep K H v t → RhoR K σ H ρ → HR K H M → g3 t ρ M Q3 → EndG K H Q3 Q2 → g2 v σ H Q2
theorem a4f {K : PySem.W.Frag} {ix : List (Option Nat)} {i : Nat} (h : ix[i]? = some none := by rfl) : BTg K ix (a7J i) (a7I i) :=
 ⟨a6r h, fun t v ρ M σ H Q3 Q2 r hr hh q en => en _ M _ H Kp.refl (hr.set i r) hh q⟩
theorem b2A {K : PySem.W.Frag} {ix : List (Option Nat)} {i j : Nat} (h : ix[i]? = some none := by rfl) (h' : ix[j]? = some none := by rfl) : BTg K ix (gTup K 2 (b3D (a7J i) (b3D (a7J j) gNil))) (b1Y 2 (a7K (a7I i) (a7K (a7I j) b5F))) := by
 refine ⟨b5j (a7f a5V (a6r h) (a7f a5V (a6r h') b3j)), fun t v ρ M σ H Q3 Q2 r hr hh q en => ?_⟩
 unfold b1Y at q
 split at q
 ·rename_i ts
  obtain ⟨a, xs, rfl, g1, g2⟩ := a1e r
  obtain ⟨hl, q⟩ := q
  match ts, hl, g2, q with
  | [x, y], _, g2, q =>
    obtain ⟨v1, v2, rfl, r1, r2⟩ := b4G g2
    refine ⟨a, _, rfl, g1, rfl, v1, [v2], rfl, v2, [], rfl, rfl, ?_⟩
    exact en _ M _ H Kp.refl ((hr.set i r1).set j r2) hh q.2
 ·exact q.elim
variable {elt iter tg : Expr} {ifs : List Expr} {pos : Pos} {scope : Scope} {N' : List Str} {ix : List (Option Nat)} {wi : TI3} {g2 : TG} {g3 : TG3} {tt : TT3} {te : TE3}
theorem a9N {X : Cx} {N' : List Str} {ix : List (Option Nat)} {wi : TI3} {g2 : TG} {g3 : TG3} {tt : TT3} {te : TE3} (bt : BTg X.K ix g2 g3) (ρ0 : En) (M0 : MH) (Q : VK3) (h : a8Z wi ix g3 tt te ρ0 M0 Q) (σ0 : St) (H0 : Hp) (Q2 : VK) (bb : bE X.K ρ0 M0 Q σ0 H0 Q2) :
  b2M (dI X.K ρ0 wi) ix g2 (dTx X.K tt) (dEx X.K te) σ0 H0 Q2 := by
 obtain ⟨hr0, hh0, en⟩ := bb
 exact ⟨M0, _, h, hr0, hh0, fun J J2 M1 H1 k1 h1 ok q1 => by
  obtain ⟨W, w0, wst, hsz, turn, fin⟩ := q1
  refine ⟨fun i m ys H => m = J.items.length - i ∧ i ≤ J.items.length ∧ ys.length ≤ i ∧ Kp X.K H1 H ∧ ∃ ts M, Reps X.K H ys ts ∧ HR X.K H M ∧ W i ts M, ⟨_, rfl, Nat.zero_le _, Nat.zero_le _, Kp.refl, [], M1, .nil, h1, w0⟩, ?_⟩
  rintro i m ys H ⟨rfl, hi, hy, kk, ts, M, rts, hh, w⟩
  have st := wst i ts M w
  by_cases hlt : i < J.items.length
  ·have e : J.items[i]? = some J.items[i] := List.getElem?_eq_getElem hlt
   obtain ⟨go, yl⟩ := ok.go i _ H M e kk hh st
   refine .inr ⟨go, by lia, fun v H' y => ?_⟩
   obtain ⟨k2, h2, r2⟩ := yl v H' y
   have kk2 := kk.trans k2
   refine bt.br J.items[i] v _ M _ H' _ _ r2 (b2R ix (hr0.kp (k1.trans kk2))) h2 (turn i _ ts M e w) fun ρ3 M3 σ3 H3 k3 hr3 hh3 q3 => ⟨ρ3, M3, _, q3, hr3, hh3, fun b M4 H4 k4 h4 q4 => ?_⟩
   have kk4 := kk2.trans (k3.trans k4)
   dsimp only at q4 ⊢
   cases b with
   | true =>
     rw [if_pos rfl] at q4 ⊢
     refine ⟨ρ3, M4, _, q4, hr3.kp k4, h4, fun t5 v5 M5 H5 k5 h5 r5 q5 => ⟨_, Nat.sub_lt_sub_left hlt (Nat.lt_succ_self i), rfl, hlt, ?_, kk4.trans k5, ts ++ [t5], M5, ?_, h5, q5⟩⟩
     ·rw [List.length_append, List.length_singleton]; lia
     ·exact (Reps.kp (k2.trans (k3.trans (k4.trans k5))) _ _ rts).append (.cons r5 .nil)
   | false =>
     rw [if_neg Bool.false_ne_true] at q4 ⊢
     exact ⟨_, Nat.sub_lt_sub_left hlt (Nat.lt_succ_self i), rfl, hlt, by lia, kk4, ts, M4, Reps.kp (k2.trans (k3.trans k4)) _ _ rts, h4, q4⟩
  ·have e : i = J.items.length := by lia
   subst e
   refine .inl ⟨ok.stop H M kk hh st, by lia, fun p hp => ?_⟩
   exact en _ _ _ _ (k1.trans (kk.trans (Kp.new hp))) (hh.newL hp rts) a1r (fin ts M w p (hh.free hp))⟩
theorem a7G (hc : X.calm = true) (hi : HI X tg iter wi) (S : BlkScope X N' ix scope) (bt : BTg X.K ix g2 g3) (hg : ∀ C s H fp pins, PG (blk X N' scope C s H fp pins) tg g2)
  (ht : ∀ C s H fp pins, HTs (blk X N' scope C s H fp pins) ifs tt) (he : ∀ C s H fp pins, HE (blk X N' scope C s H fp pins) elt te)
  (hs : ∀ x, foldedSetIterable iter X.env x = pure x := by intro _; rfl) :
  HE X (.ListComp elt [⟨tg, iter, ifs, 0⟩] scope pos) (a8Z wi ix g3 tt te) := fun ρ0 M0 Q h =>
 (b5e (tt := dTx X.K tt) (te := dEx X.K te) hc (hi.d (ρ := ρ0)) S bt.own hg (fun C s H fp pins => (ht C s H fp pins).dx) (fun C s H fp pins => (he C s H fp pins).dx) hs).imp fun σ0 H0 Q2 bb => a9N (X := X) (N' := N') bt ρ0 M0 Q h σ0 H0 Q2 bb
theorem a9e {i : Nat} {x : Str} {pos' spos : Pos} (hc : X.calm = true) (hi : HI X tg iter wi) (S : BlkScope X N' ix scope) (bt : BTg X.K ix g2 g3) (hg : ∀ C s H fp pins, PG (blk X N' scope C s H fp pins) tg g2)
  (ht : ∀ C s H fp pins, HTs (blk X N' scope C s H fp pins) ifs tt) (he : ∀ C s H fp pins, HE (blk X N' scope C s H fp pins) elt te) (hN : X.N.Nodup) (hi' : X.N[i]? = some x := by rfl) (hx : Loc X.env.scope x := by first | exact Or.inl rfl | exact Or.inr rfl)
  (hsw : swapsWith (.ListComp elt [⟨tg, iter, ifs, 0⟩] scope pos) (some (.Name x pos')) spos.line X.env = pure true := by rfl)
  (hs : ∀ x, foldedSetIterable iter X.env x = pure x := by intro _; rfl) (hf : X.fn x = true ∨ X.env.scope.names.lookup x = some .local := by first | exact .inl rfl | exact .inr rfl | assumption) :
  HS X (.Assign [.Name x pos'] (.ListComp elt [⟨tg, iter, ifs, 0⟩] scope pos) spos) (b4y i (a8Z wi ix g3 tt te)) := fun D ρ M h =>
 (b5b (tt := dTx X.K tt) (te := dEx X.K te) hN hi' hx hc (hi.d (ρ := ρ)) S bt.own hg (fun C s H fp pins => (ht C s H fp pins).dx) (fun C s H fp pins => (he C s H fp pins).dx) hsw hs hf).imp fun D2 σ H ⟨hr, hh, en⟩ =>
  a9N (X := X) (N' := N') bt ρ M (fun x M1 => D.nx (ρ.set i (some x)) M1) h σ H _ ⟨hr, hh, fun t v M1 H1 k1 h1 r1 q1 => en.nx _ M1 _ H1 k1 ((hr.kp k1).set i r1) h1 q1⟩
noncomputable def a3t (N : List Str) (ts : List T) : En := ts.map some ++ List.replicate (N.length - ts.length) none
theorem b1c {K : PySem.W.Frag} {H : Hp} {N : List Str} {vs : List V} {ts : List T} (r : Reps K H vs ts) : RhoR K (start N vs) H (a3t N ts) := by
 have hl := r.length
 refine ⟨by unfold start a3t; simp [hl], fun i t e => ?_⟩
 unfold a3t at e
 unfold start
 by_cases hi : i < ts.length
 ·rw [List.getElem?_append_left (by simpa using hi), List.getElem?_map] at e
  cases q : ts[i]? with
  | none => rw [q] at e; cases e
  | some u =>
    rw [q] at e
    cases e
    obtain ⟨v, a, b⟩ := r.get q
    refine ⟨v, ?_, b⟩
    rw [List.getElem?_append_left (by simpa [hl] using hi), List.getElem?_map, a]
    rfl
 ·rw [List.getElem?_append_right (by simpa using hi), List.getElem?_replicate] at e
  split at e <;> cases e
noncomputable def rt3 (M : MH) (Q : VK3) : VK3 := fun t M' => ∃ M0, Sub M0 M' ∧ Q t M0
end
section
variable {P : Program} {w : World} {K : PySem.W.Frag} {mg : Str → Option Value} {base : Heap}
theorem Fun.fnk {x qual : Str} {st : Stmt} {f : Addr} {fd : FuncData} {N ps : List Str} {n : Nat} {sp : Sp3} (F : Fun K x qual st f fd) (S : FnScope N ps (a0b st)) (len : ∀ ts M Q, sp ts M Q → ts.length = ps.length)
  (hbody : ∃ t : TS3, (∀ (cdv : Value) (A : Around) (outer : List Env) (s : Shared) (H : Hp) (E : XK), Room n (A.deeper (envOfC qual (a0b st) s.heap.objs.size f cdv)) →
   HSs (cxOf CX0 P w K mg base N qual (a0b st) f cdv A outer s H E).nox (a0k st) t) ∧
   ∀ ts M Q, sp ts M Q → t { nx := fun _ M' => rt3 M Q .non M', rt := rt3 M Q } (a3t N ts) M) : FnOk P w K mg base CX0 (n + 1) f fd ps (dSp K sp) := by
 obtain ⟨t, hbody, rd⟩ := hbody
 refine F.ok S (fun vs H Q E ⟨ts, M, Q3, r, _, q, _⟩ => by rw [r.length]; exact len _ _ _ q) (fun cdv A outer s H vs Q E hr ⟨ts, M, Q3, r, hh, q, en⟩ => ?_)
 refine ⟨_, hbody cdv A outer s H E hr _ _ _ (rd ts M Q3 q), b1c r, hh, ⟨?_, ?_, fun _ _ _ _ _ _ _ z => z.elim, fun _ _ _ _ _ _ _ z => z.elim⟩⟩
 ·rintro ρ' M' σ' H' k hr' hh' ⟨M0, hs, q'⟩
  exact en .non .non M0 H' k (hh'.sub hs) b1d q'
 ·rintro t' v' M' H' k hh' r' ⟨M0, hs, q'⟩
  exact en t' v' M0 H' k (hh'.sub hs) r' q'
theorem Fun.dfn {x qual : Str} {st : Stmt} {f : Addr} {fd : FuncData} {N ps : List Str} {n : Nat} {sp : Sp3} (F : Fun K x qual st f fd) (hm : mg x = some (.ref f)) (hb : a0Y K fd ps []) (S : FnScope N ps (a0b st)) (len : ∀ ts M Q, sp ts M Q → ts.length = ps.length)
  (hbody : ∃ t : TS3, (∀ (cdv : Value) (A : Around) (outer : List Env) (s : Shared) (H : Hp) (E : XK), Room n (A.deeper (envOfC qual (a0b st) s.heap.objs.size f cdv)) →
   HSs (cxOf CX0 P w K mg base N qual (a0b st) f cdv A outer s H E).nox (a0k st) t) ∧
   ∀ ts M Q, sp ts M Q → t { nx := fun _ M' => rt3 M Q .non M', rt := rt3 M Q } (a3t N ts) M) : Df P w K mg base (n + 1) x ps sp :=
 ⟨f, fd, F.fnk S len hbody, hm, F.kp, hb⟩
end
theorem b3q {l : PySem.W.OpenLaw} {k : Nat} {q : Program} {loose : List Str} {XP : (Str → Option Value) → Heap → Prop} {YP : World → Heap → Prop} {d : DefRec} {K : Params → PySem.W.Frag} {sp : Sp3}
  (hn : l.most = some 63) (hdf : d.params.defaults = []) (hr : Room k callerA) (hY : ∀ (w : World) (h : Heap), YP w h → (K w.params).In h)
  (hs : ∀ (ns : List Int) M Q, ns.length ≤ 63 → Q (.bl true) M → sp [.rd (ns.map .int)] M Q)
  (F : ∀ (w : World) (mg : Str → Option Value) (fa : Addr) (h : Heap), (K w.params).In h → h.Ns mainGlobals mg → mg d.name = some (.ref fa) →
   ∃ fd : FuncData, (∀ (s : Shared) (u : Value), BindsTo s fd ⟨[u], []⟩ [("script", u)]) ∧ ∀ base : Heap, (K w.params).In base → base.Ns mainGlobals mg → FnOk l.prog w (K w.params) mg base CX0 k fa fd ["script"] (dSp (K w.params) sp)) :
  PySem.W.WalkO q loose XP YP l.row.toRowW d [] (fun f vs => PySem.call f vs) := by
 refine L2.b4t (n := 63) (k := k) (x := "script") (CX := fun _ => CX0) (sp := fun w => dSp (K w.params) sp) hn (by decide) hdf hr hY F (fun w H a ns hl hO hS => ?_) fun _ _ _ _ _ z => z
 have fz : FzL (K w.params) H a (ns.map V.int) := by
  rcases hS with (h | ⟨o, h⟩) | h
  ·rcases hO a with z | ⟨ob, xs, z⟩
   ·rw [h] at z; cases z
   ·rw [h] at z; cases z
  ·exact .inl ⟨o, h⟩
  ·exact .inr h
 refine ⟨[.rd (ns.map .int)], fun _ => none, fun t _ => t = .bl true, .cons ?_ .nil, (fun _ _ z => by cases z), hs ns _ (fun t _ => t = .bl true) hl rfl, fun t v M' H' _ _ r e => ?_⟩
 ·unfold Rep
  exact ⟨a, _, rfl, fz, Reps.of_ints ns⟩
 ·subst e
  exact a3V r
theorem a3e : ∀ {xs : List V} {us : List Value}, xs.length = us.length → (∀ (j : Nat) x, xs[j]? = some x → ∃ u, us[j]? = some u ∧ RelV x u) → Vals xs us
 | [], [], _, _ => .nil
 | [], _ :: _, h, _ => by simp at h
 | _ :: _, [], h, _ => by simp at h
 | x :: xs, u :: us, h, g => by
   refine .cons ?_ (a3e (by simpa using h) fun j y e => ?_)
   ·obtain ⟨w, e, r⟩ := g 0 x rfl
    have : u = w := by simpa using e
    subst this; exact r
   ·obtain ⟨w, e', r⟩ := g (j + 1) y (by simpa using e)
    exact ⟨w, by simpa using e', r⟩
noncomputable def a0U (lo : Int) (n : Nat) : List V := (List.range n).map fun i => V.int (lo + (i : Nat))
theorem a3X {K : PySem.W.Frag} {H : Hp} (lo : Int) (n : Nat) : Reps K H (a0U lo n) (a1b lo n) := by
 have e1 : a0U lo n = ((List.range n).map fun i => lo + ((i : Nat) : Int)).map V.int := by unfold a0U; rw [List.map_map]; rfl
 have e2 : a1b lo n = ((List.range n).map fun i => lo + ((i : Nat) : Int)).map T.int := by unfold a1b; rw [List.map_map]; rfl
 rw [e1, e2]; exact Reps.of_ints _
section
variable {X : Cx} {a b e : Expr} {es : List Expr} {ta te : TE3} {t : TA3} {pos : Pos}
noncomputable def b3T (t : TA3) : TE3 := fun ρ M Q => t ρ M fun xs M1 => match xs with
 | [.int j] => (-(2 ^ 62) ≤ j ∧ j < 2 ^ 24) ∧ ∀ p, M1 p = none → Q (.adr p) (updM M1 p (.lst (a1b 0 j.toNat)))
 | _ => False
theorem a3A {t : TA3} {p p' pos' : Pos} (hm : X.mg "list" = none) (hm' : X.mg "range" = none) (ha : HA X [a] t) (hc : X.calm = true := by rfl) (hg : Gl X "list" := by rfl) (hg' : Gl X "range" := by rfl) (hs : starEach [a] X.env = [(false, eval a X.env)] := by rfl)
  (he : starEach [.Call (.Name "range" p') [a] [] pos'] X.env = (false, eval (.Call (.Name "range" p') [a] [] pos') X.env) :: starEach [] X.env := by rfl) :
  HE X (.Call (.Name "list" p) [.Call (.Name "range" p') [a] [] pos'] [] pos) (b3T t) := by
 intro ρ M Q h pins s σ H Q2 I bb
 obtain ⟨hr, hh, en⟩ := bb
 refine wpAny_Call_Name_kw (a2Z I hg hm boot_list ?_ (by decide) (by decide))
 refine PyProof.Rows.callWith_type1 ?_ he rfl
 rw [he]
 refine Calls.spliced_cons ?_
 refine Call_ (a2Z I hg' hm' boot_range (PyProof.Rows.callWith_type1 (thn (ha ρ M _ h pos' pins s σ H (fun vs H1 => ∃ j M1, vs = [V.int j] ∧ HR X.K H1 M1 ∧ Kp X.K H H1 ∧ (-(2 ^ 62) ≤ j ∧ j < 2 ^ 24) ∧ ∀ p, M1 p = none → Q (.adr p) (updM M1 p (.lst (a1b 0 j.toNat)))) I
  ⟨hr, hh, fun ts vs M1 H1 k1 h1 r1 q1 => by
   dsimp only at q1
   split at q1
   ·rename_i j
    obtain ⟨v, rfl, rv⟩ := a2a r1
    obtain rfl := a0q rv
    exact ⟨j, M1, rfl, h1, k1, q1.1, q1.2⟩
   ·exact q1.elim⟩) fun us s1 ⟨vs, H1, I1, rv, j, M1, e1, h1, k1, hj, q1⟩ => ?_) hs rfl))
 subst e1
 obtain ⟨u, rfl, t', rfl⟩ := a4h rv
 refine call_range_1 (Calls.spliced_nil ?_)
 have I2 : Inv X pins σ H1 { s1 with heap := s1.heap.push { cls := .type "range", data := .fields #[.int 0 s1.toks, .int j t', .int 1 (s1.toks + 1)] }, toks := s1.toks + 2 } := I1.kept fun b o e => Heap.get?_push_of_some _ e
 have hn : Builtin.Range.rangeSize 0 j 1 = ((j.toNat : Nat) : Int) := by rw [rangeSize_one]; split <;> lia
 refine call_list_range (I1.ok.hd hc) (IsRange.new ..) (small_one (by lia) (by lia) (by lia) (by lia)) hn (by lia) fun h' tk acc' c' kp e ito => ?_
 have hz : j.toNat ≤ sizeLine := by rw [sizeLine_eq]; lia
 have vr : Vals (a0U 0 j.toNat) acc'.toList := by
  refine a3e (by unfold a0U; simp [ito.1]) fun i x ex => ?_
  have hi : i < j.toNat := by have := (List.getElem?_eq_some_iff.mp ex).1; simpa [a0U] using this
  have hi' : i < acc'.size := by rw [ito.1]; exact hi
  have ea : acc'[i]? = some acc'[i] := Array.getElem?_eq_getElem hi'
  obtain ⟨tt, et⟩ := ito.2 i _ ea
  refine ⟨acc'[i], by rw [Array.getElem?_toList]; exact ea, ?_⟩
  unfold a0U at ex
  rw [List.getElem?_map, List.getElem?_range hi] at ex
  have := Option.some.inj ex
  subst this
  exact ⟨tt, by rw [et, Int.mul_one]⟩
 have I3 := I2.laid (a := { s1 with heap := s1.heap.push { cls := .type "range", data := .fields #[.int 0 s1.toks, .int j t', .int 1 (s1.toks + 1)] }, toks := s1.toks + 2 }.heap.objs.size) (o := .lst (a0U 0 j.toNat)) (t' := tk) kp (Nat.le_refl _)
  (show a0Q X.prog X.w _ h' _ (.lst (a0U 0 j.toNat)) from ⟨by unfold a0U; simpa using hz, acc'.toList, c', vr, by simpa using e⟩)
 have hf := I2.hok.fresh (Nat.le_refl _)
 exact ⟨.ref _, _, I3, rfl, en _ _ _ _ (k1.trans (Kp.new hf)) (h1.newL hf (a3X 0 j.toNat)) a1r (q1 _ (h1.free hf))⟩
noncomputable def b3w (M : MH) (x : T) : Prop := match x with
 | .adr p => (match M p with | some (.lst _) => True | _ => False)
 | _ => False
noncomputable abbrev RM3 := T → List T → MH → VK3 → Prop
noncomputable def dM (K : PySem.W.Frag) (r : RM3) : V → List V → Hp → VK → Prop := fun v vs H Q2 => ∃ x xs M Q, Rep K H v x ∧ Reps K H vs xs ∧ HR K H M ∧ r x xs M Q ∧ EndE K H Q Q2
noncomputable def MtR3 (X : Cx) (id : String) (r : RM3) : Prop := MtR X id (dM X.K r)
noncomputable def tLM3 (r : RM3) (to : TE3) (t : TA3) : TE3 := fun ρ M Q => to ρ M fun x M1 => b3w M1 x ∧ t ρ M1 fun xs M2 => r x xs M2 Q
theorem b3v {K : PySem.W.Frag} {H : Hp} {M : MH} {x : T} {v : V} (hh : HR K H M) (r : Rep K H v x) (h : b3w M x) : tyV K "list" v H := by
 unfold b3w at h
 split at h
 ·rename_i p
  split at h
  ·rename_i ts e
   obtain ⟨xs, g1, _⟩ := hh _ _ e
   obtain rfl := a0A r
   exact .inl ⟨rfl, xs, SqL.of g1⟩
  ·exact h.elim
 ·exact h.elim
theorem h_lm {o : Expr} {to : TE3} {name : Str} {apos cpos : Pos} {id : String} {r : RM3} (slot : Slot "list" name id) (hty : typeOf (.builtin id) = pure (.type "method_descriptor")) (hm : MtR3 X id r) (ho : HE X o to) (ha : HA X (e :: es) t)
  (hbase : attributeBase o name X.env (eval o X.env) = eval o X.env := by rfl)
  (hfew : ((backTo cpos (starEach (e :: es) X.env)).all (fun x => !x.1) && (backToKw cpos (keywordEach [] X.env)).all (fun x => x.1.isSome)
   && decide ((e :: es).length + ([] : List Keyword).length + (if ([] : List Keyword).isEmpty then 0 else 1) < 30)) = true := by rfl)
  (hline : (apos.endLine == cpos.line) = true := by rfl) (hs : starEach (e :: es) X.env = (false, eval e X.env) :: starEach es X.env := by rfl) (hplain : (backTo cpos (starEach es X.env)).any (·.1) = false := by rfl) :
  HE X (.Call (.Attribute o name apos) (e :: es) [] cpos) (tLM3 r to t) := fun ρ M Q h =>
 (b8r PySem.F.plainAttrs_list slot hty hm (ho.d (ρ := ρ)) (ha.d (ρ := ρ)) hbase hfew hline hs hplain).imp fun σ H Q2 ⟨hr, hh, en⟩ => ⟨M, _, h, hr, hh, fun x v M1 H1 k1 h1 r1 q1 => ⟨b3v h1 r1 q1.1, M1, _, q1.2, hr.kp k1, h1, fun ts vs M2 H2 k2 h2 r2 q2 =>
  ⟨x, ts, M2, Q, Rep.kp k2 _ _ r1, r2, h2, q2, en.kp (k1.trans k2)⟩⟩⟩
noncomputable def b2X : RM3 := fun x xs M Q => match x, xs with
 | .adr p, [y] => (match M p with | some (.lst ts) => ts.length < sizeLine ∧ Q .non (updM M p (.lst (ts ++ [y]))) | _ => False)
 | _, _ => False
theorem b0l : MtR3 X "list.append" b2X := by
 intro pins s σ H v vs u us Q2 I rv rvs h
 obtain ⟨x, xs, M, Q, r1, r2, hh, q, en⟩ := h
 unfold b2X at q
 split at q
 ·rename_i p y
  split at q
  ·rename_i ts e0
   obtain ⟨ys, g1, g2⟩ := hh _ _ e0
   obtain rfl := a0A r1
   obtain ⟨w, rfl, rw'⟩ := a2a r2
   exact b1D pins s σ H _ _ u us Q2 I rv rvs ⟨_, ys, w, rfl, rfl, g1, by rw [g2.length]; exact q.1, en _ _ _ _ (Kp.lst g1) (hh.setL g1 (g2.append (.cons rw' .nil))) b1d q.2⟩
  ·exact q.elim
 ·exact q.elim
noncomputable def b5v : List T → Option (List Int)
 | [] => some []
 | .int i :: ts => (b5v ts).map (i :: ·)
 | _ :: _ => none
theorem a7D : ∀ (ns : List Int), b5v (ns.map T.int) = some ns
 | [] => rfl
 | n :: ns => by show (b5v (ns.map T.int)).map (n :: ·) = _; rw [a7D ns]; rfl
theorem a2v {o : Expr} {to : TE3} {apos cpos : Pos} (ho : HE X o to) (ha : HA X (e :: es) t)
  (hbase : attributeBase o "append" X.env (eval o X.env) = eval o X.env := by rfl)
  (hfew : ((backTo cpos (starEach (e :: es) X.env)).all (fun x => !x.1) && (backToKw cpos (keywordEach [] X.env)).all (fun x => x.1.isSome)
   && decide ((e :: es).length + ([] : List Keyword).length + (if ([] : List Keyword).isEmpty then 0 else 1) < 30)) = true := by rfl)
  (hline : (apos.endLine == cpos.line) = true := by rfl) (hs : starEach (e :: es) X.env = (false, eval e X.env) :: starEach es X.env := by rfl) (hplain : (backTo cpos (starEach es X.env)).any (·.1) = false := by rfl) :
  HE X (.Call (.Attribute o "append" apos) (e :: es) [] cpos) (tLM3 b2X to t) := h_lm PySem.F.slot_list_append PySem.F.type_list_append b0l ho ha hbase hfew hline hs hplain
end
end L2
namespace LM
noncomputable def a4v (n l : Int) : Prop := 1 ≤ (l.natAbs : Int) ∧ (l.natAbs : Int) < n
noncomputable def a2G (n : Int) (w : List Int) : Prop := ∀ l ∈ w, a4v n l
noncomputable def a7C (n l : Int) : Bool := decide (1 ≤ l.natAbs) && decide ((l.natAbs : Int) < n)
noncomputable def isPl (n : Int) (w : List Int) : Bool := decide (1 ≤ n) && decide (n ≤ 6) && decide (w.length ≤ 16) && w.all (a7C n)
noncomputable def PlOK (n : Int) (w : List Int) : Prop := 1 ≤ n ∧ n ≤ 6 ∧ w.length ≤ 16 ∧ a2G n w
theorem b1P {n l : Int} : a7C n l = true ↔ a4v n l := by
 unfold a7C a4v
 simp only [Bool.and_eq_true, decide_eq_true_eq]
 lia
theorem PlOK.is {n : Int} {w : List Int} (h : PlOK n w) : isPl n w = true := by
 obtain ⟨h1, h2, h3, h4⟩ := h
 unfold isPl
 simp only [Bool.and_eq_true, decide_eq_true_eq, List.all_eq_true]
 exact ⟨⟨⟨h1, h2⟩, h3⟩, fun l hl => b1P.mpr (h4 l hl)⟩
theorem a2G.nil {n : Int} : a2G n [] := fun _ z => nomatch z
theorem a2G.append {n : Int} {u v : List Int} (h : a2G n u) (g : a2G n v) : a2G n (u ++ v) := fun l hl => (List.mem_append.mp hl).elim (h l) (g l)
theorem a2f {α β : Type} (f : α → β) {L : List α} {i : Nat} {x : α} (h : L[i]? = some x) : (L.take i).map f ++ [f x] = (L.take (i + 1)).map f := by
 rw [List.take_add_one, h]; simp
theorem a2D {α β : Type} {f : α → β} {L : List α} {i : Nat} {y : β} (h : (L.map f)[i]? = some y) : ∃ x, L[i]? = some x ∧ f x = y := by
 rw [List.getElem?_map] at h
 cases q : L[i]? with
 | none => rw [q] at h; cases h
 | some x => rw [q] at h; exact ⟨x, rfl, Option.some.inj h⟩
noncomputable def b6C (n : Int) : List Int := (List.range n.toNat).map fun i => ((i : Nat) : Int)
theorem a2G.map {n : Int} {w : List Int} {f : Int → Int} (hf : ∀ l, a4v n l → a4v n (f l)) (h : a2G n w) : a2G n (w.map f) := fun l hl => by
 obtain ⟨k, hk, rfl⟩ := List.mem_map.mp hl
 exact hf k (h k hk)
theorem PlOK.map {n : Int} {w : List Int} {f : Int → Int} (hf : ∀ l, a4v n l → a4v n (f l)) (h : PlOK n w) : PlOK n (w.map f) := ⟨h.1, h.2.1, by rw [List.length_map]; exact h.2.2.1, h.2.2.2.map hf⟩
end LM
namespace L2
open PySem PySem.Spec PyProof.Rows LM
theorem a8k (x : Str) (N : List Str) (t : T) (ts : List T) : a3t (x :: N) (t :: ts) = some t :: a3t N ts := by
 unfold a3t
 simp only [List.map_cons, List.length_cons, Nat.add_sub_add_right, List.cons_append]
theorem a8j (x : Str) (N : List Str) : a3t (x :: N) [] = none :: a3t N [] := by
 unfold a3t
 simp only [List.map_nil, List.length_cons, List.length_nil, Nat.sub_zero, List.nil_append, List.replicate_succ]
theorem b0b : a3t [] [] = [] := rfl
theorem b0h (ix : List (Option Nat)) (ρ : En) : a6q (none :: ix) ρ = none :: a6q ix ρ := rfl
theorem b0g (j : Nat) (ix : List (Option Nat)) (ρ : En) : a6q (some j :: ix) ρ = (ρ[j]?).join :: a6q ix ρ := rfl
theorem b1k (ρ : En) : a6q [] ρ = [] := rfl
theorem b1M {α : Type} (a : Option α) : (some a).join = a := rfl
theorem a0j {M : MH} {Q : VK3} {t : T} {M' : MH} (h : Q t M') : rt3 M Q t M' := ⟨M', Sub.refl, h⟩
theorem b8P {α : Type} (x : α) (xs : List α) : atI (x :: xs) 0 = some x := by
 have := a2e (xs := x :: xs) (j := 0) (v := x) rfl
 simpa using this
theorem b8O {α : Type} (x y : α) (xs : List α) : atI (x :: y :: xs) 1 = some y := by
 have := a2e (xs := x :: y :: xs) (j := 1) (v := y) rfl
 simpa using this
theorem b8N {α : Type} (x y z : α) (xs : List α) : atI (x :: y :: z :: xs) 2 = some z := by
 have := a2e (xs := x :: y :: z :: xs) (j := 2) (v := z) rfl
 simpa using this
theorem b8z (n : Nat) : ixN (n + 1) 0 = some 0 := by
 unfold ixN
 rw [if_pos (by lia), if_pos (by lia)]; rfl
theorem a6T {M : MH} {a : Addr} {o u : MO} : updM (updM M a o) a u = updM M a u := by
 funext b; unfold updM; split <;> rfl
theorem b3L (ns : List Int) (i : Int) (h0 : 0 ≤ i) (h : i < ns.length) : atI (ns.map T.int) i = some (.int (ns.getD i.toNat 0)) := by
 have e : i = ((i.toNat : Nat) : Int) := by lia
 have hl : i.toNat < ns.length := by lia
 have := a2e (xs := ns.map T.int) (j := i.toNat) (v := .int (ns.getD i.toNat 0)) (by
  rw [List.getElem?_map, List.getElem?_eq_getElem hl]
  simp [List.getD, List.getElem?_eq_getElem hl])
 rw [← e] at this
 exact this
theorem a7X (bs : List Bool) : a6Q (bs.map T.bl) = some bs := by
 induction bs with
 | nil => rfl
 | cons b bs ih => show (a6Q (bs.map T.bl)).map (b :: ·) = _; rw [ih]; rfl
theorem a4Z (ns : List Int) : a1B (ns.map T.int) = true := by
 induction ns with
 | nil => rfl
 | cons n ns ih => show (a0v (.int n) && a1B (ns.map T.int)) = true; rw [ih]; rfl
theorem a5Y (ns : List Int) : a4b (ns.map T.int) = 0 := by
 induction ns with
 | nil => rfl
 | cons n ns ih => show max (depT (.int n)) (a4b (ns.map T.int)) = 0; rw [ih]; rfl
theorem b2a (a b : List Int) : eqTs (a.map T.int) (b.map T.int) = decide (a = b) := by
 induction a generalizing b with
 | nil => cases b <;> simp [eqTs]
 | cons x a ih =>
   cases b with
   | nil => simp [eqTs]
   | cons y b =>
     show (eqT (.int x) (.int y) && eqTs (a.map T.int) (b.map T.int)) = _
     rw [ih]
     have : eqT (.int x) (.int y) = (x == y) := rfl
     rw [this]
     by_cases h1 : x = y <;> by_cases h2 : a = b <;> simp [h1, h2]
theorem b5G (a b : List T) : eqT (.tup a) (.tup b) = eqTs a b := rfl
theorem a3D (a b : Int) : eqT (.int a) (.int b) = decide (a = b) := by
 show (a == b) = _
 by_cases h : a = b <;> simp [h]
theorem b2b (x y : T) (a b : List T) : eqTs (x :: a) (y :: b) = (eqT x y && eqTs a b) := rfl
theorem b3E : eqTs [] [] = true := rfl
theorem a5a (x : T) (a : List T) : a1B (x :: a) = (a0v x && a1B a) := rfl
theorem b0f : a1B [] = true := rfl
theorem a2B (i : Int) : a0v (.int i) = true := rfl
theorem a9k (i : Bool) : a0v (.bl i) = true := rfl
theorem a4q (i : List T) : a0v (.tup i) = a1B i := rfl
theorem a2P (i : Int) : depT (.int i) = 0 := rfl
theorem b2i (i : Bool) : depT (.bl i) = 0 := rfl
theorem a4Q (i : List T) : depT (.tup i) = a4b i + 1 := rfl
theorem a5Z (x : T) (a : List T) : a4b (x :: a) = max (depT x) (a4b a) := rfl
theorem a7N : a4b [] = 0 := rfl
theorem Sub.set {M M' : MH} {p : Addr} {o u : MO} (h : Sub (updM M p o) M') : Sub (updM M p u) (updM M' p u) := fun a v e => by
 by_cases ha : a = p
 ·subst ha; rw [a0d] at e ⊢; exact e
 ·rw [a0o ha] at e ⊢
  exact h a v (by rw [a0o ha]; exact e)
theorem Sub.newr {M M' : MH} {r : Addr} {o : MO} (h : Sub M M') (hr : M' r = none) : Sub M (updM M' r o) := h.trans (Sub.new hr)
theorem a3x {M : MH} {Q : VK3} {t : T} {M0 M' : MH} (h : Q t M0) (s : Sub M0 M') : rt3 M Q t M' := ⟨M0, s, h⟩
theorem a8G {n : Nat} {k : Int} (h0 : 0 ≤ k) (h : k < n) : ixN n k = some k.toNat := by
 unfold ixN
 rw [if_pos h0, if_pos h]
theorem a0t (a : Int) (n : Nat) : (a1b a n).length = n := by unfold a1b; simp
theorem Sub.updF {M M' : MH} {p : Addr} {o : MO} (h : Sub M M') (hp : M p = none) : Sub M (updM M' p o) := fun a v e => by
 have ha : a ≠ p := by rintro rfl; rw [hp] at e; cases e
 rw [a0o ha]; exact h a v e
end L2
namespace L2
open PySem PySem.Spec PyProof.Rows
section
variable {prog : Program} {w : World} {A : Around} {E : Value → Shared → Prop} {s : Shared}
end
section
variable {X : Cx}
end
theorem a0P {n i : Nat} {x : T} (h : (a1b 0 n)[i]? = some x) : i < n ∧ x = .int i := by
 have hl := (List.getElem?_eq_some_iff.mp h).1
 rw [a0t] at hl
 unfold a1b at h
 rw [List.getElem?_map, List.getElem?_range hl] at h
 have e := Option.some.inj h
 refine ⟨hl, ?_⟩
 rw [← e]
 simp
theorem a0C {n : Nat} (h : n < 10000) : n < sizeLine := Nat.lt_of_le_of_lt (by lia : n ≤ 10000) (by decide)
theorem a5h {n : Nat} (h : n < 10000) : n ≤ sizeLine := Nat.le_of_lt (a0C h)
end L2
namespace HT
open PySem PySem.Spec PyProof.Rows
section
variable {prog : Program} {w : World} {A : Around} {E : Value → Shared → Prop} {s : Shared}
end
end HT
namespace L2
open PySem PySem.Spec PyProof.Rows
section
variable {X : Cx}
end
end L2
namespace HT
open PySem PySem.Spec PyProof.Rows
section
variable {prog : Program} {w : World} {A : Around} {E : Value → Shared → Prop} {s : Shared}
end
end HT
namespace L2
open PySem PySem.Spec PyProof.Rows
section
variable {X : Cx}
end
section
variable {X : Cx}
end
section
variable {X : Cx}
end
section
variable {X : Cx}
end
section
variable {X : Cx} {es : List Expr} {e : Expr} {t : TA3}
end
section
variable {X : Cx} {es : List Expr} {e : Expr} {t : TA3}
noncomputable def b4D : List T → Option (List Str)
 | [] => some []
 | .str i :: ts => (b4D ts).map (i :: ·)
 | _ :: _ => none
theorem a6W : ∀ (ns : List Str), b4D (ns.map T.str) = some ns
 | [] => rfl
 | n :: ns => by show (b4D (ns.map T.str)).map (n :: ·) = _; rw [a6W ns]; rfl
end
section
variable {prog : Program} {w : World} {A : Around} {E : Value → Shared → Prop} {s : Shared}
theorem a8I {R : Result → Shared → Prop} {S r : Addr} {a b c : Int} {t u v : Tok} {n : Nat} (hh : A.handled = none) (hr : IsRange s.heap r a b c t u v) (hsmall : Builtin.Range.small a b c = true)
  (hn : Builtin.Range.rangeSize a b c = n) (hlen : n ≤ 2 ^ 24) (hS : s.heap.get? S = some { cls := .type "list", data := .seq #[] 0 })
  (hR : ∀ (h' : Heap) (tk : Tok) (acc' : Array Value) (c' : Nat), (∀ b o, b ≠ S → s.heap.get? b = some o → h'.get? b = some o) → h'.get? S = some { cls := .type "list", dict := none, data := .seq acc' c', slots := #[] } →
   ItemsOf (fun i v => ∃ t, v = .int (a + i * c) t) acc' n → R (.ok (.ret (.ref S))) { s with heap := h', toks := tk }) :
  codeAny (model prog w) A (.builtin "list.__iadd__" ⟨[.ref S, .ref r], []⟩) R s := by
 refine codeAny_builtin F.entry_list_iadd ?_
 rw [Around.under_plainId F.plain_list_iadd _]
 show wpAny _ A.in1 (Builtin.List.listExtendWith (.ref S) (.ref r) (.ref S)) _ _ _
 exact wpAny_extend_range hh hr hsmall hn hlen S (.ref S) 0 hS hR
theorem a5I {Q : List Value → Shared → Prop} {r : Addr} {a b c : Int} {t u v : Tok} {n : Nat} (hh : A.handled = none) (hr : IsRange s.heap r a b c t u v) (hsmall : Builtin.Range.small a b c = true)
  (hn : Builtin.Range.rangeSize a b c = n) (hlen : n ≤ 2 ^ 24)
  (hQ : ∀ (h' : Heap) (tk : Tok) (acc' : Array Value), (∀ b o, s.heap.get? b = some o → h'.get? b = some o) → ItemsOf (fun i v => ∃ t, v = .int (a + i * c) t) acc' n → Q acc'.toList { s with heap := h', toks := tk }) :
  wpAny (model prog w) A (collect (.ref r)) Q E s := by
 unfold collect
 refine wpAny_bind (wpAny_runValue (codeAny_builtin F.entry_proto_collect ?_))
 rw [Around.under_plainId F.plain_proto_collect _]
 show wpAny _ A.in1 (newList [] >>= fun l => again (.builtin "list.__iadd__" ⟨[l, .ref r], []⟩)) _ _ s
 refine wpAny_bind (wpAny_newObj_type ?_)
 have hS₁ : (s.heap.push { cls := .type "list", data := .seq ([] : List Value).toArray }).get? s.heap.objs.size = some { cls := .type "list", data := .seq #[] } := Heap.get?_push_size _ rfl
 refine wpAny_pure ⟨plainId_quiet F.plain_list_iadd _, a8I (s := { s with heap := s.heap.push { cls := .type "list", data := .seq ([] : List Value).toArray } }) hh (Heap.get?_push_of_some _ hr) hsmall hn hlen hS₁ fun h' tk acc' c' hk hS hacc => ?_⟩
 show wpAny _ A (load s.heap.objs.size >>= _) _ _ _
 refine wpAny_bind (wpAny_load hS ?_)
 exact wpAny_pure (hQ h' tk acc' (fun b o e => hk b o (Nat.ne_of_lt (Heap.lt_size e)) (Heap.get?_push_of_some _ e)) hacc)
theorem a3Q {Q₁ : Value → Shared → Prop} {r : Addr} {a b c : Int} {t u v : Tok} {n : Nat} (hh : A.handled = none) (hr : IsRange s.heap r a b c t u v) (hsmall : Builtin.Range.small a b c = true)
  (hn : Builtin.Range.rangeSize a b c = n) (hlen : n ≤ 2 ^ 24)
  (h : ∀ (h' : Heap) (tk : Tok) (acc : Array Value), (∀ b o, s.heap.get? b = some o → h'.get? b = some o) → ItemsOf (fun i v => ∃ t, v = .int (a + i * c) t) acc n → Q₁ (.ref h'.objs.size) { s with heap := h'.push { cls := .type "tuple", data := .seq acc }, toks := tk }) :
  codeAny (model prog w) A (.call (.builtin "tuple.__new__") ⟨[.type "tuple", .ref r], []⟩) (wants Q₁ E) s := by
 refine codeAny_of_tree ?_
 show wpAny _ A.in1 (do checkBuiltinCall "tuple.__new__" ⟨[.type "tuple", .ref r], []⟩; again (.builtin "tuple.__new__" ⟨[.type "tuple", .ref r], []⟩)) _ _ s
 refine wpAny_bind (wpAny_of_eq (F.newCall_tuple_1 _) (wpAny_pure ⟨plainId_quiet F.plain_tuple_new _, codeAny_builtin F.entry_tuple_new ?_⟩))
 rw [Around.under_plainId F.plain_tuple_new _]
 have hsub := sub_tuple_self
 have hinit := init_tuple_lookup
 have hmh := madeHere_tuple
 have hTI : s.TypeIs (.ref r) "range" := ⟨_, hr, rfl⟩
 wp_walk using wpAny_typeOf hTI, a5I (n := n) (A := A.in1) hh hr hsmall hn hlen
 intro h' tk acc hk hacc
 show wpAny _ _ (Builtin.Tuple.tupleExact acc.toList.toArray >>= fun v => ret v) _ _ _
 unfold Builtin.Tuple.tupleExact
 refine wpAny_bind (wpAny_newObj_type ?_ (by show acc.toList.toArray.size ≤ sizeLine; simp only [Array.toArray_toList]; rw [hacc.1, sizeLine_eq]; lia))
 refine wpAny_pure ?_
 have e : acc.toList.toArray = acc := by simp
 rw [e]
 exact h h' tk acc hk hacc
theorem a3d {Q : Value → Shared → Prop} {r : Addr} {a b c : Int} {t u v : Tok} {n : Nat} (hh : A.handled = none) (hr : IsRange s.heap r a b c t u v) (hsmall : Builtin.Range.small a b c = true)
  (hn : Builtin.Range.rangeSize a b c = n) (hlen : n ≤ 2 ^ 24)
  (hQ : ∀ (h' : Heap) (tk : Tok) (acc : Array Value), (∀ b o, s.heap.get? b = some o → h'.get? b = some o) → ItemsOf (fun i v => ∃ t, v = .int (a + i * c) t) acc n → Q (.ref h'.objs.size) { s with heap := h'.push { cls := .type "tuple", data := .seq acc }, toks := tk }) :
  wpAny (model prog w) A (call (.type "tuple") [.ref r]) Q E s := by
 refine callType_codes (Q₁ := fun obj s₁ => s₁.TypeIs obj "tuple" ∧ Q obj s₁) F.called_tuple (F.typeCall_tuple_1 _) F.entry_object_init
  (a3Q (A := A.in1) (Q₁ := fun obj s₁ => s₁.TypeIs obj "tuple" ∧ Q obj s₁) hh hr hsmall hn hlen fun h' tk acc hm hacc => ⟨⟨_, Heap.get?_push_size _ rfl, rfl⟩, hQ h' tk acc hm hacc⟩) fun obj s₁ h₁ => ?_
 exact ⟨h₁.1, F.args_object_init_2 obj _, object_init_meets F.called_tuple.init.lookup F.called_tuple.made (by decide) prog w A.in1 _ s₁ ⟨h₁.1, rfl, h₁.2⟩⟩
end
section
open AutoSeq1 (wpAny_loadPart')
open SeqAt (EqAt)
end
section
variable {X : Cx} {a b e : Expr} {es : List Expr} {ta te : TE3} {t : TA3} {pos : Pos}
noncomputable def b3Q (t : TA3) : TE3 := fun ρ M Q => t ρ M fun xs M1 => match xs with
 | [.int j] => (-(2 ^ 62) ≤ j ∧ j < 2 ^ 24) ∧ Q (.tup (a1b 0 j.toNat)) M1
 | _ => False
theorem a8L {t : TA3} {p p' pos' : Pos} (hm : X.mg "tuple" = none) (hm' : X.mg "range" = none) (ha : HA X [a] t) (hc : X.calm = true := by rfl) (hg : Gl X "tuple" := by rfl) (hg' : Gl X "range" := by rfl) (hs : starEach [a] X.env = [(false, eval a X.env)] := by rfl)
  (he : starEach [.Call (.Name "range" p') [a] [] pos'] X.env = (false, eval (.Call (.Name "range" p') [a] [] pos') X.env) :: starEach [] X.env := by rfl) :
  HE X (.Call (.Name "tuple" p) [.Call (.Name "range" p') [a] [] pos'] [] pos) (b3Q t) := by
 intro ρ M Q h pins s σ H Q2 I bb
 obtain ⟨hr, hh, en⟩ := bb
 refine wpAny_Call_Name_kw (a2Z I hg hm boot_tuple ?_ (by decide) (by decide))
 refine PyProof.Rows.callWith_type1 ?_ he rfl
 rw [he]
 refine Calls.spliced_cons ?_
 refine Call_ (a2Z I hg' hm' boot_range (PyProof.Rows.callWith_type1 (thn (ha ρ M _ h pos' pins s σ H (fun vs H1 => ∃ j M1, vs = [V.int j] ∧ HR X.K H1 M1 ∧ Kp X.K H H1 ∧ (-(2 ^ 62) ≤ j ∧ j < 2 ^ 24) ∧ Q (.tup (a1b 0 j.toNat)) M1) I
  ⟨hr, hh, fun ts vs M1 H1 k1 h1 r1 q1 => by
   dsimp only at q1
   split at q1
   ·rename_i j
    obtain ⟨v, rfl, rv⟩ := a2a r1
    obtain rfl := a0q rv
    exact ⟨j, M1, rfl, h1, k1, q1.1, q1.2⟩
   ·exact q1.elim⟩) fun us s1 ⟨vs, H1, I1, rv, j, M1, e1, h1, k1, hj, q1⟩ => ?_) hs rfl))
 subst e1
 obtain ⟨u, rfl, t', rfl⟩ := a4h rv
 refine call_range_1 (Calls.spliced_nil ?_)
 have I2 : Inv X pins σ H1 { s1 with heap := s1.heap.push { cls := .type "range", data := .fields #[.int 0 s1.toks, .int j t', .int 1 (s1.toks + 1)] }, toks := s1.toks + 2 } := I1.kept fun b o e => Heap.get?_push_of_some _ e
 have hn : Builtin.Range.rangeSize 0 j 1 = ((j.toNat : Nat) : Int) := by rw [rangeSize_one]; split <;> lia
 refine a3d (I1.ok.hd hc) (IsRange.new ..) (small_one (by lia) (by lia) (by lia) (by lia)) hn (by lia) fun h' tk acc' kp ito => ?_
 have hz : j.toNat ≤ sizeLine := by rw [sizeLine_eq]; lia
 have vr : Vals (a0U 0 j.toNat) acc'.toList := by
  refine a3e (by unfold a0U; simp [ito.1]) fun i x ex => ?_
  have hi : i < j.toNat := by have := (List.getElem?_eq_some_iff.mp ex).1; simpa [a0U] using this
  have hi' : i < acc'.size := by rw [ito.1]; exact hi
  have ea : acc'[i]? = some acc'[i] := Array.getElem?_eq_getElem hi'
  obtain ⟨tt, et⟩ := ito.2 i _ ea
  refine ⟨acc'[i], by rw [Array.getElem?_toList]; exact ea, ?_⟩
  unfold a0U at ex
  rw [List.getElem?_map, List.getElem?_range hi] at ex
  have := Option.some.inj ex
  subst this
  exact ⟨tt, by rw [et, Int.mul_one]⟩
 have I2' : Inv X pins σ H1 { s1 with heap := h', toks := tk } := I2.kept (h' := h') (t' := tk) kp
 have eacc : acc'.toList.toArray = acc' := by simp
 have I3 : Inv X pins σ (upd H1 h'.objs.size (.tup (a0U 0 j.toNat))) { s1 with heap := h'.push { cls := .type "tuple", data := .seq acc' }, toks := tk } :=
  I2'.laid (t' := tk) (fun b o e => Heap.get?_push_of_some _ e) (Nat.le_refl _) (show a0Q X.prog X.w _ _ _ (.tup (a0U 0 j.toNat)) from
   ⟨by unfold a0U; simpa using hz, acc'.toList, vr, by rw [eacc]; exact a2Q.new _ _⟩)
 have hf := I2'.hok.fresh (Nat.le_refl _)
 have nw := Kp.new (K := X.K) (H := H1) (o := .tup (a0U 0 j.toNat)) hf
 exact ⟨.ref h'.objs.size, _, I3, rfl, en _ _ _ _ (k1.trans nw) (h1.keep hf) (a1O (SqT.of a0u) (a3X 0 j.toNat)) q1⟩
end
section
open AutoSeq1
end
section
variable {X : Cx} {a b e f : Expr} {es : List Expr} {ta te : TE3} {t : TA3} {pos : Pos}
noncomputable def tP3 : List (TE3 × TE3) → En → MH → (List T → List T → MH → Prop) → Prop
 | [], _, M, Q => Q [] [] M
 | (tk, tv) :: r, ρ, M, Q => tk ρ M fun x M1 => tv ρ M1 fun y M2 => tP3 r ρ M2 fun ks vs M3 => Q (x :: ks) (y :: vs) M3
noncomputable def HPs (X : Cx) (keys : List (Option Expr)) (values : List Expr) (trs : List (TE3 × TE3)) : Prop :=
 ∀ (pos : Pos) (ρ : En) (M : MH) (Q : List T → List T → MH → Prop), tP3 trs ρ M Q → ∀ (pins : List (Addr × Obj)) (s : Shared) (σ : St) (H : Hp), Inv X pins σ H s → RhoR X.K σ H ρ → HR X.K H M →
   wpAny (model X.prog X.w) X.A (evalPairs (pairTrees keys values X.env pos)) (fun vs s' => ∃ xs ys ks ts M' H', Inv X pins σ H' s' ∧ VV (xs.zip ys) vs ∧ (xs.length = ys.length ∧ xs.length = keys.length) ∧ Kp X.K H H' ∧ HR X.K H' M' ∧ Reps X.K H' xs ks ∧ Reps X.K H' ys ts ∧ Q ks ts M') X.xe s
theorem b1V : HPs X [] [] [] := fun pos ρ M Q h pins s σ H I hr hh => pairTrees_nil_walk ⟨[], [], [], [], M, H, I, .nil, ⟨rfl, rfl⟩, Kp.refl, hh, .nil, .nil, h⟩
theorem a6J {k v : Expr} {ks : List (Option Expr)} {vs : List Expr} {tk tv : TE3} {trs : List (TE3 × TE3)} (hk : HE X k tk) (hv : HE X v tv) (hr' : HPs X ks vs trs) : HPs X (some k :: ks) (v :: vs) ((tk, tv) :: trs) := by
 intro pos ρ M Q h pins s σ H I hr hh
 refine pairTrees_cons_walk (thn (hk ρ M _ h pins s σ H (fun v H1 => ∃ x M1, Rep X.K H1 v x ∧ HR X.K H1 M1 ∧ Kp X.K H H1 ∧ tv ρ M1 fun y M2 => tP3 trs ρ M2 fun ks vs M3 => Q (x :: ks) (y :: vs) M3) I
  ⟨hr, hh, fun x v M1 H1 k1 h1 r1 q1 => ⟨x, M1, r1, h1, k1, q1⟩⟩) fun u s1 ⟨xv, H1, I1, rx, x, M1, r1, h1, k1, q1⟩ => ?_)
 refine thn (hv ρ M1 _ q1 pins s1 σ H1 (fun v H2 => ∃ y M2, Rep X.K H2 v y ∧ HR X.K H2 M2 ∧ Kp X.K H1 H2 ∧ tP3 trs ρ M2 fun ks vs M3 => Q (x :: ks) (y :: vs) M3) I1
  ⟨hr.kp k1, h1, fun y v M2 H2 k2 h2 r2 q2 => ⟨y, M2, r2, h2, k2, q2⟩⟩) fun w2 s2 ⟨yv, H2, I2, ry, y, M2, r2, h2, k2, q2⟩ => ?_
 refine thn (hr' pos ρ M2 _ q2 pins s2 σ H2 I2 (hr.kp (k1.trans k2)) h2) fun ws s3 ⟨xs, ys, ks', ts', M3, H3, I3, rel, hl, k3, h3, rk, rv, q3⟩ => ?_
 exact ⟨xv :: xs, yv :: ys, x :: ks', y :: ts', M3, H3, I3, .cons ⟨rx, ry⟩ rel, ⟨by rw [List.length_cons, List.length_cons, hl.1], by rw [List.length_cons, List.length_cons, hl.2]⟩, (k1.trans k2).trans k3, h3, .cons (Rep.kp (k2.trans k3) _ _ r1) rk, .cons (Rep.kp k3 _ _ r2) rv, q3⟩
theorem a5Q : ∀ (more acc : List (Key × V)), (∀ kv ∈ more, valV acc kv.1 = none) → (more.map (·.1)).Nodup → a9v acc more = acc ++ more
 | [], acc, _, _ => by show acc = acc ++ []; rw [List.append_nil]
 | p :: r, acc, h, nd => by
   show a9v (putK acc p.1 p.2) r = _
   rw [b2Y p.2 (h p List.mem_cons_self)]
   rw [List.map_cons, List.nodup_cons] at nd
   rw [a5Q r _ (fun kv hkv => ?_) nd.2, List.append_assoc]
   ·rfl
   ·have h1 := h kv (List.mem_cons_of_mem _ hkv)
    unfold valV at h1 ⊢
    rw [List.find?_append]
    have h2 : (acc.find? fun x => decide (x.1 = kv.1)) = none := by
     cases q : acc.find? fun x => decide (x.1 = kv.1) with
     | none => rfl
     | some z => rw [q] at h1; cases h1
    rw [h2]
    have h3 : p.1 ≠ kv.1 := fun e => nd.1 (e ▸ List.mem_map_of_mem hkv)
    simp [h3]
noncomputable def keyT : Key → T
 | .inl i => .int i
 | .inr x => .str x
theorem a3y {K : PySem.W.Frag} {H : Hp} {v : V} {k : Key} (r : Rep K H v (keyT k)) : v = kV k := by
 cases k with
 | inl i => exact a0q r
 | inr x => exact a3o r
theorem a9f {K : PySem.W.Frag} {H : Hp} : ∀ {ks : List Key} {vs : List V}, Reps K H vs (ks.map keyT) → vs = ks.map kV
 | [], _, r => by rw [List.map_nil] at r; unfold Reps at r; exact r
 | k :: ks, _, r => by
   rw [List.map_cons] at r
   unfold Reps at r
   obtain ⟨v, w, rfl, r1, r2⟩ := r
   rw [a3y r1, a9f r2]
   rfl
noncomputable def valT {κ : Type} [DecidableEq κ] (kvs : List (κ × T)) (k : κ) : Option T := (kvs.find? fun kv => decide (kv.1 = k)).map (·.2)
noncomputable def putT {κ : Type} [DecidableEq κ] (kvs : List (κ × T)) (k : κ) (v : T) : List (κ × T) :=
 if (kvs.any fun kv => decide (kv.1 = k)) = true then kvs.map (fun kv => if kv.1 = k then (kv.1, v) else kv) else kvs ++ [(k, v)]
theorem KRep.val {κ : Type} [DecidableEq κ] {K : PySem.W.Frag} {H : Hp} (k : κ) : ∀ {xs : List (κ × V)} {kvs : List (κ × T)}, KRep K H xs kvs → (match valT kvs k with | some t => ∃ v, valV xs k = some v ∧ Rep K H v t | none => valV xs k = none)
 | [], [], _ => rfl
 | p :: r, q :: u, h => by
   have ih := KRep.val k h.2.2
   unfold valT valV at ih ⊢
   rw [List.find?_cons, List.find?_cons, h.1]
   by_cases c : q.1 = k
   ·simp only [c, decide_true, Option.map_some]
    exact ⟨p.2, rfl, h.2.1⟩
   ·simp only [c, decide_false]
    exact ih
 | [], q :: u, h => h.elim
 | p :: r, [], h => h.elim
theorem KRep.any {κ : Type} [DecidableEq κ] {K : PySem.W.Frag} {H : Hp} (k : κ) : ∀ {xs : List (κ × V)} {kvs : List (κ × T)}, KRep K H xs kvs → (xs.any fun kv => decide (kv.1 = k)) = kvs.any fun kv => decide (kv.1 = k)
 | [], [], _ => rfl
 | p :: r, q :: u, h => by rw [List.any_cons, List.any_cons, h.1, KRep.any k h.2.2]
 | [], q :: u, h => h.elim
 | p :: r, [], h => h.elim
theorem KRep.repl {κ : Type} [DecidableEq κ] {K : PySem.W.Frag} {H : Hp} (k : κ) {v : V} {z : T} (rz : Rep K H v z) : ∀ {xs : List (κ × V)} {kvs : List (κ × T)}, KRep K H xs kvs → KRep K H (xs.map fun kv => if kv.1 = k then (kv.1, v) else kv) (kvs.map fun kv => if kv.1 = k then (kv.1, z) else kv)
 | [], [], _ => trivial
 | p :: r, q :: u, h => by
   rw [List.map_cons, List.map_cons]
   refine ⟨?_, ?_, KRep.repl k rz h.2.2⟩
   ·rw [h.1]
    by_cases c : q.1 = k
    ·rw [if_pos c, if_pos c]
    ·rw [if_neg c, if_neg c]; exact h.1
   ·rw [h.1]
    by_cases c : q.1 = k
    ·rw [if_pos c, if_pos c]; exact rz
    ·rw [if_neg c, if_neg c]; exact h.2.1
 | [], q :: u, h => h.elim
 | p :: r, [], h => h.elim
theorem KRep.snoc {κ : Type} {K : PySem.W.Frag} {H : Hp} (k : κ) {v : V} {z : T} (rz : Rep K H v z) : ∀ {xs : List (κ × V)} {kvs : List (κ × T)}, KRep K H xs kvs → KRep K H (xs ++ [(k, v)]) (kvs ++ [(k, z)])
 | [], [], _ => ⟨rfl, rz, trivial⟩
 | p :: r, q :: u, h => ⟨h.1, h.2.1, KRep.snoc k rz h.2.2⟩
 | [], q :: u, h => h.elim
 | p :: r, [], h => h.elim
theorem KRep.put {κ : Type} [DecidableEq κ] {K : PySem.W.Frag} {H : Hp} (k : κ) {v : V} {z : T} (rz : Rep K H v z) {xs : List (κ × V)} {kvs : List (κ × T)} (h : KRep K H xs kvs) : KRep K H (putK xs k v) (putT kvs k z) := by
 unfold putK putT
 rw [h.any k]
 split
 ·exact h.repl k rz
 ·exact h.snoc k rz
theorem a9A {κ : Type} {K : PySem.W.Frag} {H : Hp} : ∀ {kvs : List (κ × T)} {ys : List V}, Reps K H ys (kvs.map Prod.snd) → KRep K H ((kvs.map Prod.fst).zip ys) kvs
 | [], ys, r => by rw [List.map_nil] at r; unfold Reps at r; subst r; exact trivial
 | q :: u, ys, r => by
   rw [List.map_cons] at r
   unfold Reps at r
   obtain ⟨v, w, rfl, r1, r2⟩ := r
   exact ⟨rfl, r1, a9A r2⟩
theorem a8U : ∀ (ks : List Key) (ys : List V), ((ks.map kV).zip ys) = (ks.zip ys).map fun kv => (kV kv.1, kv.2)
 | [], ys => by simp
 | k :: ks, [] => by simp
 | k :: ks, y :: ys => by
   rw [List.map_cons, List.zip_cons_cons, List.zip_cons_cons, List.map_cons, a8U ks ys]
noncomputable def b6p (trs : List (TE3 × TE3)) : TE3 := fun ρ M Q => ∀ p, M p = none → tP3 trs ρ (updM M p (.dk [])) fun ks ts M1 => M1 p = some (.dk []) ∧ ∃ kvs : List (Key × T), ks = kvs.map (fun kv => keyT kv.1) ∧ ts = kvs.map Prod.snd ∧ (kvs.map Prod.fst).Nodup ∧ Q (.adr p) (updM M1 p (.dk kvs))
theorem b7D {keys : List (Option Expr)} {values : List Expr} {trs : List (TE3 × TE3)} (h : HPs X keys values trs) (hall : keys.all (·.isSome) = true := by rfl) (hl : keys.length = values.length := by rfl) (h0 : keys ≠ [] := by exact fun z => nomatch z)
  (h15 : keys.length ≤ 15 := by decide) : HE X (.Dict keys values pos) (b6p trs) := by
 intro ρ M Q q pins s σ H Q2 I bb
 obtain ⟨hr, hh, en⟩ := bb
 have hn := I.hok.fresh (Nat.le_refl s.heap.objs.size)
 have I1 := I.laid (a := s.heap.objs.size) (o := .dK []) (h' := s.heap.push { cls := .type "dict", data := .dict #[] }) (t' := s.toks) (fun _ _ q => Heap.get?_push_of_some _ q) (Nat.le_refl _) (a9I s.heap I.big)
 have k0 := Kp.new (K := X.K) (o := .dK []) hn
 have hh1 : HR X.K (upd H s.heap.objs.size (.dK [])) (updM M s.heap.objs.size (.dk [])) := hh.newK hn (kvs := []) (xs := []) trivial
 refine wpAny_Dict_walk (knd := a0F X.prog X.w) hall hl h0 h15 (thn (h pos ρ _ _ (q _ (hh.free hn)) pins _ σ _ I1 (hr.kp k0) hh1) fun ws s2 ⟨xs, ys, ks, ts, M2, H2, I2, rel, hxy, k2, h2, rk, rv, hM2, kvs, eks, ets, nd, q2⟩ => ?_)
 subst eks ets
 have rk' : Reps X.K H2 xs ((kvs.map Prod.fst).map keyT) := by rw [List.map_map]; exact rk
 obtain rfl := a9f rk'
 rw [a8U] at rel
 obtain ⟨zs, e, kr0⟩ := h2 _ _ hM2
 obtain rfl : zs = [] := by cases zs with | nil => rfl | cons a b => exact kr0.elim
 obtain ⟨rs, c, rkv⟩ := a6a (P := X.prog) (w := X.w) rel
 obtain ⟨z, hd, vs0, r0, dd⟩ := b5I I2.hok e
 cases r0
 have hyl := rv.length
 rw [List.length_map] at hyl
 have em : a9v [] ((kvs.map Prod.fst).zip ys) = (kvs.map Prod.fst).zip ys := by
  rw [a5Q _ _ (fun _ _ => rfl), List.nil_append]
  rw [List.map_fst_zip (by rw [List.length_map]; lia)]
  exact nd
 refine ⟨rs, c, dd, fun h' dd' hs => ?_⟩
 have hz : ((kvs.map Prod.fst).zip ys).length ≤ sizeLine := by
  rw [List.length_zip, List.length_map, sizeLine_eq]
  have h1 := hxy.2
  rw [List.length_map, List.length_map] at h1
  lia
 have he : ∃ q, h'.get? s.heap.objs.size = some q := let ⟨q, _, _, hq, _⟩ := dd'; ⟨q, hq⟩
 have rm := rkv.merge (kvs := []) (vs := []) .nil
 rw [em] at rm
 exact ⟨.ref s.heap.objs.size, _, a5p I2 (by rw [e]; exact True.intro) hs he (b2h hz hd rm dd'), rfl, en _ _ _ _ ((k0.trans k2).trans (Kp.dict e (.inl ⟨_, rfl⟩))) (h2.setK e (.inl ⟨_, rfl⟩) (a9A rv)) a1r q2⟩
noncomputable def b4A (tup : Bool) : TE3 := fun _ M Q => ∀ p, M p = none → Q (.adr p) (updM M p (if tup then .dt [] else .dk []))
theorem a9D {pos : Pos} : HE X (.Dict [] [] pos) (b4A false) := fun ρ M Q h =>
 (b3f).imp fun σ H Q2 ⟨hr, hh, en⟩ => fun p hp => en _ _ _ _ (Kp.new hp) (hh.newK hp (kvs := []) (xs := []) trivial) a1r (h p (hh.free hp))
theorem b7C {pos : Pos} : HE X (.Dict [] [] pos) (b4A true) := fun ρ M Q h =>
 (b3e).imp fun σ H Q2 ⟨hr, hh, en⟩ => fun p hp => en _ _ _ _ (Kp.new hp) (hh.newT hp (kvs := []) (xs := []) trivial) a1r (h p (hh.free hp))
noncomputable def b0t (M : MH) (x : T) : Prop := match x with
 | .adr p => (match M p with | some (.dk _) => True | some (.dt _) => True | _ => False)
 | _ => False
theorem a6H {K : PySem.W.Frag} {H : Hp} {M : MH} {x : T} {v : V} (hh : HR K H M) (r : Rep K H v x) (d : b0t M x) : ∃ a, v = .ref a ∧ IsD H a := by
 cases x with
 | adr p =>
   obtain rfl := a0A r
   unfold b0t at d
   dsimp only at d
   cases e : M p with
   | none => rw [e] at d; exact d.elim
   | some o =>
     rw [e] at d
     cases o with
     | lst ts => exact d.elim
     | dk kvs => obtain ⟨xs, g1, _⟩ := hh _ _ e; exact ⟨p, rfl, .inl ⟨xs, .of g1⟩⟩
     | dt kvs => obtain ⟨xs, g1, _⟩ := hh _ _ e; exact ⟨p, rfl, .inr ⟨xs, .of g1⟩⟩
     | fz kvs => exact d.elim
     | fk kvs => exact d.elim
     | ob C fs => exact d.elim
 | _ => exact d.elim
noncomputable def b6o (td tk tx : TE3) : TE3 := fun ρ M Q => td ρ M fun x M1 => b0t M1 x ∧ tk ρ M1 fun k M2 => tx ρ M2 fun z M3 => match x with
 | .adr p => (match M3 p with
   | some (.dk kvs) => ∃ kk, k = keyT kk ∧ Q ((valT kvs kk).getD z) M3
   | _ => False)
 | _ => False
theorem b1X {o : Expr} {td tk tx : TE3} {apos cpos : Pos} (hu : X.A.units + 64 < cLine) (ho : HE X o td) (he : HE X e tk) (hf : HE X f tx)
  (m1 : attributeBase o "get" X.env (eval o X.env) = eval o X.env := by rfl)
  (m2 : ((backTo cpos (starEach [e, f] X.env)).all (fun x => !x.1) && (backToKw cpos (keywordEach [] X.env)).all (fun x => x.1.isSome)
   && decide (([e, f] : List Expr).length + ([] : List Keyword).length + (if ([] : List Keyword).isEmpty then 0 else 1) < 30)) = true := by rfl)
  (m3 : (apos.endLine == cpos.line) = true := by rfl) (m4 : backTo cpos (starEach [e, f] X.env) = [(false, eval e X.env), (false, eval f X.env)] := by rfl) :
  HE X (.Call (.Attribute o "get" apos) [e, f] [] cpos) (b6o td tk tx) := fun ρ M Q h =>
 (a9n (by lia) (ho.d (ρ := ρ)) (he.d (ρ := ρ)) (hf.d (ρ := ρ)) ⟨m1, m2, m3, m4⟩).imp fun σ H Q2 ⟨hr, hh, en⟩ => ⟨M, _, h, hr, hh, fun x v M1 H1 k1 h1 r1 q1 => by
  obtain ⟨hd, q1⟩ := q1
  obtain ⟨a, rfl, isd⟩ := a6H h1 r1 hd
  refine ⟨a, rfl, isd, M1, _, q1, hr.kp k1, h1, fun y v2 M2 H2 k2 h2 r2 q2 => ⟨M2, _, q2, hr.kp (k1.trans k2), h2, fun z v3 M3 H3 k3 h3 r3 q3 => ?_⟩⟩
  cases x with
  | adr p =>
    cases r1
    dsimp only at q3
    split at q3
    ·rename_i kvs e
     obtain ⟨kk, rfl, q3⟩ := q3
     obtain rfl := a3y r2
     obtain ⟨xs, g1, g2⟩ := h3 _ _ e
     refine ⟨_, DGet.k g1, en _ _ M3 H3 ((k1.trans k2).trans k3) h3 ?_ q3⟩
     have hv := g2.val kk
     cases ev : valT kvs kk with
     | none => rw [ev] at hv; rw [hv]; exact r3
     | some t =>
       rw [ev] at hv
       obtain ⟨u, e1, e2⟩ := hv
       rw [e1]; exact e2
    ·exact q3.elim
  | _ => exact hd.elim⟩
noncomputable def tDGK (td tk : TE3) : TE3 := fun ρ M Q => td ρ M fun x M1 => tk ρ M1 fun k M2 => match x with
 | .adr p => (match M2 p with
   | some (.dk kvs) => ∃ kk t, k = keyT kk ∧ valT kvs kk = some t ∧ Q t M2
   | _ => False)
 | _ => False
theorem b5D {o i : Expr} {td tk : TE3} {pos : Pos} (hu : X.A.units + 64 < cLine) (ho : HE X o td) (hi : HE X i tk) (hs : NoSl i := by intro _ _; rfl) : HE X (.Subscript o i pos) (tDGK td tk) := fun ρ M Q h =>
 (b1o (by lia) (ho.d (ρ := ρ)) (hi.d (ρ := ρ)) hs).imp fun σ H Q2 ⟨hr, hh, en⟩ => ⟨M, _, h, hr, hh, fun x v M1 H1 k1 h1 r1 q1 => ⟨M1, _, q1, hr.kp k1, h1, fun y v2 M2 H2 k2 h2 r2 q2 => by
  cases x with
  | adr p =>
    cases r1
    dsimp only at q2
    split at q2
    ·rename_i kvs e
     obtain ⟨kk, t, rfl, ev, q2⟩ := q2
     obtain rfl := a3y r2
     obtain ⟨xs, g1, g2⟩ := h2 _ _ e
     have hv := g2.val kk
     rw [ev] at hv
     obtain ⟨u, e1, e2⟩ := hv
     exact ⟨_, u, rfl, by rw [← e1]; exact DGet.k g1, en _ _ M2 H2 (k1.trans k2) h2 e2 q2⟩
    ·exact q2.elim
  | _ => exact q2.elim⟩⟩
noncomputable def sDPK (td tk tv : TE3) : TS3 := fun D ρ M => tv ρ M fun z M1 => td ρ M1 fun x M2 => tk ρ M2 fun k M3 => match x with
 | .adr p => (match M3 p with
   | some (.dk kvs) => ∃ kk, k = keyT kk ∧ kvs.length < sizeLine ∧ D.nx ρ (updM M3 p (.dk (putT kvs kk z)))
   | _ => False)
 | _ => False
theorem b1b {o i value : Expr} {td tk tv : TE3} {pos pos' : Pos} (hu : X.A.units + 64 < cLine) (hv : HE X value tv) (ho : HE X o td) (hi : HE X i tk) (hs : swapsWith value (some (.Subscript o i pos')) pos.line X.env = pure false := by rfl) :
  HS X (.Assign [.Subscript o i pos'] value pos) (sDPK td tk tv) := fun D ρ M h =>
 (b1i (by lia) (ho.d (ρ := ρ)) (hi.d (ρ := ρ)) (hv.d (ρ := ρ)) hs).imp fun D2 σ H ⟨hr, hh, en⟩ => ⟨M, _, h, hr, hh, fun z v M1 H1 k1 h1 r1 q1 => ⟨M1, _, q1, hr.kp k1, h1, fun x v2 M2 H2 k2 h2 r2 q2 => ⟨M2, _, q2, hr.kp (k1.trans k2), h2, fun y v3 M3 H3 k3 h3 r3 q3 => by
  cases x with
  | adr p =>
    cases r2
    dsimp only at q3
    split at q3
    ·rename_i kvs e
     obtain ⟨kk, rfl, hl, q3⟩ := q3
     obtain rfl := a3y r3
     obtain ⟨xs, g1, g2⟩ := h3 _ _ e
     have kk' := Kp.dict (K := X.K) (u := .dK (putK xs kk v)) g1 (.inl ⟨_, rfl⟩)
     have kall := (k1.trans k2).trans (k3.trans kk')
     refine ⟨_, _, rfl, DPut.k g1 (by rw [g2.length]; exact hl), en.nx _ _ _ _ kall (hr.kp kall) (h3.setK g1 (.inl ⟨_, rfl⟩) (g2.put kk (Rep.kp (k2.trans k3) _ _ r1))) q3⟩
    ·exact q3.elim
  | _ => exact q3.elim⟩⟩⟩
noncomputable def b3P (t : TA3) : TE3 := fun ρ M Q => t ρ M fun xs M1 => match xs with
 | [.int i, .int j] => (-(2 ^ 62) ≤ i ∧ i < 2 ^ 62 ∧ -(2 ^ 62) ≤ j ∧ j < 2 ^ 62 ∧ j - i < 2 ^ 24) ∧ Q (.tup (a1b i (j - i).toNat)) M1
 | _ => False
theorem a8K {t : TA3} {p p' pos' : Pos} (hm : X.mg "tuple" = none) (hm' : X.mg "range" = none) (ha : HA X [a, b] t) (hc : X.calm = true := by rfl) (hg : Gl X "tuple" := by rfl) (hg' : Gl X "range" := by rfl) (hs : starEach [a, b] X.env = [(false, eval a X.env), (false, eval b X.env)] := by rfl) (hs2 : starEach [b] X.env = [(false, eval b X.env)] := by rfl)
  (he : starEach [.Call (.Name "range" p') [a, b] [] pos'] X.env = (false, eval (.Call (.Name "range" p') [a, b] [] pos') X.env) :: starEach [] X.env := by rfl) :
  HE X (.Call (.Name "tuple" p) [.Call (.Name "range" p') [a, b] [] pos'] [] pos) (b3P t) := by
 intro ρ M Q h pins s σ H Q2 I bb
 obtain ⟨hr, hh, en⟩ := bb
 refine wpAny_Call_Name_kw (a2Z I hg hm boot_tuple ?_ (by decide) (by decide))
 refine PyProof.Rows.callWith_type1 ?_ he rfl
 rw [he]
 refine Calls.spliced_cons ?_
 refine Call_ (a2Z I hg' hm' boot_range (PyProof.Rows.callWith_type1 (thn (ha ρ M _ h pos' pins s σ H (fun vs H1 => ∃ i j M1, vs = [V.int i, V.int j] ∧ HR X.K H1 M1 ∧ Kp X.K H H1 ∧ (-(2 ^ 62) ≤ i ∧ i < 2 ^ 62 ∧ -(2 ^ 62) ≤ j ∧ j < 2 ^ 62 ∧ j - i < 2 ^ 24) ∧ Q (.tup (a1b i (j - i).toNat)) M1) I
  ⟨hr, hh, fun ts vs M1 H1 k1 h1 r1 q1 => by
   dsimp only at q1
   split at q1
   ·rename_i i j
    obtain ⟨v, w', rfl, rv, rw'⟩ := b4G r1
    obtain rfl := a0q rv
    obtain rfl := a0q rw'
    exact ⟨i, j, M1, rfl, h1, k1, q1.1, q1.2⟩
   ·exact q1.elim⟩) fun us s1 ⟨vs, H1, I1, rv, i, j, M1, e1, h1, k1, hj, q1⟩ => ?_) (by rw [hs, hs2]) (by rw [hs2]; rfl)))
 subst e1
 obtain ⟨u, u2, rfl, ⟨t0, rfl⟩, t', rfl⟩ := rv.two
 refine call_range_2 (Calls.spliced_nil ?_)
 have I2 : Inv X pins σ H1 { s1 with heap := s1.heap.push { cls := .type "range", data := .fields #[.int i t0, .int j t', .int 1 s1.toks] }, toks := s1.toks + 1 } := I1.kept fun b o e => Heap.get?_push_of_some _ e
 have hn : Builtin.Range.rangeSize i j 1 = (((j - i).toNat : Nat) : Int) := by rw [rangeSize_one]; split <;> lia
 refine a3d (I1.ok.hd hc) (IsRange.new ..) (small_one (by lia) (by lia) (by lia) (by lia)) hn (by lia) fun h' tk acc' kp ito => ?_
 have hz : (j - i).toNat ≤ sizeLine := by rw [sizeLine_eq]; lia
 have vr : Vals (a0U i (j - i).toNat) acc'.toList := by
  refine a3e (by unfold a0U; simp [ito.1]) fun k x ex => ?_
  have hi : k < (j - i).toNat := by have := (List.getElem?_eq_some_iff.mp ex).1; simpa [a0U] using this
  have hi' : k < acc'.size := by rw [ito.1]; exact hi
  have ea : acc'[k]? = some acc'[k] := Array.getElem?_eq_getElem hi'
  obtain ⟨tt, et⟩ := ito.2 k _ ea
  refine ⟨acc'[k], by rw [Array.getElem?_toList]; exact ea, ?_⟩
  unfold a0U at ex
  rw [List.getElem?_map, List.getElem?_range hi] at ex
  have := Option.some.inj ex
  subst this
  exact ⟨tt, by rw [et, Int.mul_one]⟩
 have I2' : Inv X pins σ H1 { s1 with heap := h', toks := tk } := I2.kept (h' := h') (t' := tk) kp
 have eacc : acc'.toList.toArray = acc' := by simp
 have I3 : Inv X pins σ (upd H1 h'.objs.size (.tup (a0U i (j - i).toNat))) { s1 with heap := h'.push { cls := .type "tuple", data := .seq acc' }, toks := tk } :=
  I2'.laid (t' := tk) (fun b o e => Heap.get?_push_of_some _ e) (Nat.le_refl _) (show a0Q X.prog X.w _ _ _ (.tup (a0U i (j - i).toNat)) from
   ⟨by unfold a0U; simpa using hz, acc'.toList, vr, by rw [eacc]; exact a2Q.new _ _⟩)
 have hf := I2'.hok.fresh (Nat.le_refl _)
 have nw := Kp.new (K := X.K) (H := H1) (o := .tup (a0U i (j - i).toNat)) hf
 exact ⟨.ref h'.objs.size, _, I3, rfl, en _ _ _ _ (k1.trans nw) (h1.keep hf) (a1O (SqT.of a0u) (a3X i (j - i).toNat)) q1⟩
end
end L2
namespace L2
open PySem PySem.Spec PyProof.Rows LM
noncomputable def isWd (n : Int) (w : List Int) (k : Int) : Bool := decide (1 ≤ n) && decide (n ≤ 6) && decide ((w.length : Int) ≤ k) && w.all (a7C n)
theorem b5u (n : Int) (w : List Int) : isWd n w 16 = isPl n w := by
 unfold isWd isPl
 rw [show decide ((w.length : Int) ≤ 16) = decide (w.length ≤ 16) from decide_eq_decide.mpr (by lia)]
theorem a6S {κ : Type} [DecidableEq κ] (p : κ × T) (r : List (κ × T)) (k : κ) : valT (p :: r) k = if p.1 = k then some p.2 else valT r k := by
 unfold valT
 rw [List.find?_cons]
 by_cases c : p.1 = k
 ·simp [c]
 ·simp [c]
theorem a5g {M M' : MH} {p : Addr} (h : Sub M M') (hp : M' p = none) : M p = none := by
 cases q : M p with
 | none => rfl
 | some o => have := h p o q; rw [hp] at this; cases this
theorem b2C {α : Type} (xs : List α) (a b : α) : atI (xs ++ [a, b]) (-2) = some a := by
 have e : (xs ++ [a, b]).length = xs.length + 2 := by simp
 unfold atI
 rw [e]
 have : ixN (xs.length + 2) (-2) = some xs.length := by
  unfold ixN
  simp
  lia
 rw [this]
 simp
theorem a4Y : ∀ (L : List (List Int)), a1B (L.map fun u => T.tup (u.map .int)) = true
 | [] => rfl
 | u :: L => by rw [List.map_cons, a5a, a4q, a4Z, a4Y L]; rfl
theorem a5X : ∀ (L : List (List Int)), a4b (L.map fun u => T.tup (u.map .int)) ≤ 1
 | [] => by rw [List.map_nil, a7N]; lia
 | u :: L => by
   have := a5X L
   rw [List.map_cons, a5Z, a4Q, a5Y]
   lia
noncomputable def gI (w : List Int) (k : Int) : Int := w.getD k.toNat 0
theorem a0e {a b : TS3} {D : Ends3} {ρ : En} {M : MH} (h : ∀ K : En → MH → Prop, K = b D → a { D with nx := K } ρ M) : a9Z a b D ρ M := h _ rfl
theorem b2Q {a b c : TS3} {D : Ends3} {ρ : En} {M : MH} (h : ∀ K : En → MH → Prop, K = c D → a9Z a b { D with nx := K } ρ M) : a9Z a (a9Z b c) D ρ M := h _ rfl
section
variable {n : Int} (h6 : n ≤ 6)
include h6
end
section
variable {n : Int}
end
section
variable {n : Int}
end
section
variable {n : Int}
end
end L2
namespace L2
open PySem PySem.Spec PyProof.Rows
noncomputable def b6B (hi : Int) (n : Nat) : List T := (List.range n).map fun i => T.int (hi - (i : Nat))
section
variable {X : Cx} {a b c : Expr} {t : TA3} {pos : Pos}
noncomputable def b5y (t : TA3) : TI3 := fun ρ M R => t ρ M fun xs M1 => match xs with
 | [.int i, .int j, .int s] => (s = -1 ∧ -(2 ^ 62) ≤ i ∧ i < 2 ^ 62 ∧ -(2 ^ 62) ≤ j ∧ j < 2 ^ 62) ∧ R ⟨b6B i (i - j).toNat, fun _ => True⟩ M1
 | _ => False
end
section
variable {X : Cx}
end
theorem Inv.turnNew {X : Cx} {pins : List (Addr × Obj)} {σ : St} {H : Hp} {s : Shared} {h' : Heap} {t' : Nat} {e it T : Addr} {xs : List V} (I : Inv X pins σ H s) (fe : FpOk X pins H e) (fi : FpOk X pins H it)
  (k : ∀ b o, b ≠ e → b ≠ it → s.heap.get? b = some o → h'.get? b = some o) (hT : s.heap.objs.size ≤ T) (new : a0Q X.prog X.w (upd H T (.tup xs)) h' T (.tup xs)) :
  Inv X pins σ (upd H T (.tup xs)) { s with heap := h', toks := t' } := by
 have hn : H T = none := I.hok.fresh hT
 have ne : ∀ b u, H b = some u → b ≠ e ∧ b ≠ it := fun b u q => ⟨fun z => (by rw [z, fe.1] at q; cases q), fun z => (by rw [z, fi.1] at q; cases q)⟩
 have nc : ∀ {b : Addr}, b ∉ [e, it] → b ≠ e ∧ b ≠ it := fun hc => ⟨fun z => hc (by simp [z]), fun z => hc (by simp [z])⟩
 refine I.step (g' := s.gens) (d' := s.drawn) (ch := [e, it]) (fun b hb => ?_) (fun b o _ _ hc q _ => k b o (nc hc).1 (nc hc).2 q) (fun b o _ _ hc q _ => ⟨o.slots, k b o (nc hc).1 (nc hc).2 q⟩)
  (fun b o _ q n => by rw [a0n (Nat.ne_of_lt (Nat.lt_of_lt_of_le (Heap.lt_size q) hT))]; exact n)
  (fun b o hc q => ⟨o, k b o (nc hc).1 (nc hc).2 q⟩) (fun b xs q => by rw [a0n (a0l q hn)]; exact q) (fun b o u q => by rw [a0n (a0l q hn)]; exact q) (fun b ps q => ⟨#[], by rw [a0n (a0l q hn), q]; simp⟩) (fun m hm => ?_) (fun b u q => ?_) I.bare
 ·have z : b = e ∨ b = it := by simpa using hb
  rcases z with rfl | rfl
  ·exact ⟨fe.2.2.2.1, fe.2.1, fe.2.2.2.2.1, fe.2.2.2.2.2⟩
  ·exact ⟨fi.2.2.2.1, fi.2.1, fi.2.2.2.2.1, fi.2.2.2.2.2⟩
 ·obtain ⟨o, es, ep, ho, r⟩ := hm
  exact ⟨o, es, ep, k _ o (Ne.symm fe.2.1) (Ne.symm fi.2.1) ho, r⟩
 ·by_cases hb : b = T
  ·subst hb; rw [a0u] at q; cases q; exact new
  ·rw [a0n hb] at q
   refine (I.hok b u q).stay (fun c v hc z => ?_) (fun c z => by rw [a0n (a0l z hn)]; exact z) fun c xs z => by rw [a0n (a0l z hn)]; exact z
   rcases hc with y | y
   ·rw [y] at z ⊢; exact k b v (ne b u q).1 (ne b u q).2 z
   ·exact k c v (ne c _ y).1 (ne c _ y).2 z
theorem a0K {i : TI3} {g : TG3} {b : TS3} {D : Ends3} {ρ : En} {M : MH} (h : ∀ B : TS3, B = b → a2g i g B D ρ M) : a2g i g b D ρ M := h _ rfl
section
variable {X : Cx}
end
section
variable {X : Cx} {pins : List (Addr × Obj)} {σ : St} {H : Hp} {s : Shared}
end
section
variable {X : Cx} {Ha : Hp} {a b c e : Expr} {es : List Expr} {st : Stmt} {rest ba bb body : List Stmt} {ta tb te : TE3} {tA : TT3} {t u : TS3} {pos : Pos}
end
section
variable {X : Cx} {Ha : Hp} {e : Expr} {es : List Expr} {t : TA3} {pos : Pos}
end
section
variable {X : Cx} {Ha : Hp} {e : Expr} {te : TE3} {pos : Pos}
end
section
variable {P : Program} {w : World} {K : PySem.W.Frag} {mg : Str → Option Value} {base : Heap}
end
section
variable {prog : Program} {w : World} {A : Around} {E : Value → Shared → Prop} {s : Shared} {h : Heap} {g : Array GenState} {d : Drawn} {t : Nat} {os : OsState} {a C : Addr} {o : Obj} {K : PySem.W.Frag}
local macro_rules | `(tactic| walk_at "xc") => `(tactic| (repeat any_goals (first | wp_step | assumption)))
end
section
variable {X : Cx} {pos : Pos}
end
section
variable {X : Cx} {pins : List (Addr × Obj)} {σ : St} {H : Hp} {s : Shared}
end
local macro_rules | `(tactic| walk_at "xc") => `(tactic| (repeat any_goals (first | wp_step | assumption)))
section
variable {X : Cx} {pos : Pos}
end
section
variable {X : Cx} {pins : List (Addr × Obj)} {σ σ' : St} {H : Hp} {s : Shared}
end
section
variable {X : Cx} {body : List Stmt}
end
section
variable {K : PySem.W.Frag} {mg : Str → Option Value} {P : Addr} {cs : List (Str × Addr)}
end
section
variable {X : Cx}
end
section
variable {X : Cx}
theorem rep2 {K : PySem.W.Frag} {H : Hp} {vs : List V} {x y : T} (r : Reps K H vs [x, y]) : ∃ v w, vs = [v, w] ∧ Rep K H v x ∧ Rep K H w y := by
 unfold Reps at r
 obtain ⟨v, w, rfl, h, r⟩ := r
 obtain ⟨v2, rfl, h2⟩ := a2a r
 exact ⟨_, _, rfl, h, h2⟩
noncomputable def b4N : List T → MH → VK3 → Prop := fun xs M Q => match xs with
 | [.int i, .int j] => Q (.int (if j > i then j else i)) M
 | _ => False
theorem b2y (hc : X.calm = true) : a2R X (.builtin "max") b4N := by
 intro pins s σ H vs us Q2 I r h
 obtain ⟨xs, M, Q, rr, hh, q, en⟩ := h
 unfold b4N at q
 split at q
 ·rename_i i j
  obtain ⟨v, w, rfl, r1, r2⟩ := rep2 rr
  obtain rfl := a0q r1
  obtain rfl := a0q r2
  exact b2w hc pins s σ H _ us Q2 I r ⟨_, _, rfl, en _ _ M H Kp.refl hh a0x q⟩
 ·exact q.elim
noncomputable def b4M : List T → MH → VK3 → Prop := fun xs M Q => match xs with
 | [.int i, .int j] => Q (.int (if j < i then j else i)) M
 | _ => False
theorem b2x (hc : X.calm = true) : a2R X (.builtin "min") b4M := by
 intro pins s σ H vs us Q2 I r h
 obtain ⟨xs, M, Q, rr, hh, q, en⟩ := h
 unfold b4M at q
 split at q
 ·rename_i i j
  obtain ⟨v, w, rfl, r1, r2⟩ := rep2 rr
  obtain rfl := a0q r1
  obtain rfl := a0q r2
  exact b2v hc pins s σ H _ us Q2 I r ⟨_, _, rfl, en _ _ M H Kp.refl hh a0x q⟩
 ·exact q.elim
end
noncomputable def b0K (i : Nat) (te : TE3) (f : Int → Int → Int) : TS3 := fun D ρ M => match ρ[i]? with
 | some (some (.int a)) => te ρ M fun y M1 => match y with
   | .int b => D.nx (ρ.set i (some (.int (f a b)))) M1
   | _ => False
 | _ => False
theorem b6y {X : Cx} {i : Nat} {x : Str} {e : Expr} {te : TE3} {op : Operator} {f : Int → Int → Int} {pos pos' : Pos} (ho : PIp X op (ipI f)) (he : HE X e te) (hN : X.N.Nodup) (hi : X.N[i]? = some x := by rfl) (hx : Loc X.env.scope x := by first | exact Or.inl rfl | exact Or.inr rfl)
  (hf : X.fn x = true ∨ X.env.scope.names.lookup x = some .local := by first | exact .inl rfl | exact .inr rfl | assumption) : HS X (.AugAssign (.Name x pos') op e pos) (b0K i te f) := fun D ρ M h =>
 (b6O hN hi hx (he.d (ρ := ρ)) ho hf).imp fun D2 σ H ⟨hr, hh, en⟩ => by
  unfold b0K at h
  split at h
  ·rename_i a e
   obtain ⟨v, ev, rv⟩ := hr.2 i _ e
   obtain rfl := a0q rv
   refine ⟨_, ev, M, _, h, hr, hh, fun t v M1 H1 k1 h1 r1 q1 => ?_⟩
   dsimp only at q1
   split at q1
   ·obtain rfl := a0q r1
    exact ⟨a, _, rfl, rfl, en.nx _ M1 _ H1 k1 ((hr.kp k1).set i a0x) h1 q1⟩
   ·exact q1.elim
  ·exact h.elim
section
variable {X : Cx} {d : Addr} {ks : List (Str × Addr)}
end
section
variable {X : Cx} {d : Addr} {ks : List (Str × Addr)}
end
noncomputable def flT : T → Bool
 | .non => true
 | .bl _ => true
 | .int _ => true
 | .str _ => true
 | _ => false
noncomputable def toV : T → V
 | .bl b => .bl b
 | .int i => .int i
 | .str z => .str z
 | _ => .non
theorem b3Z {K : PySem.W.Frag} {H : Hp} {v : V} {t : T} (f : flT t = true) (r : Rep K H v t) : v = toV t := by
 cases t with
 | non => exact a8H r
 | bl b => exact a3V r
 | int i => exact a0q r
 | str z => exact a3o r
 | _ => cases f
theorem a8o {K : PySem.W.Frag} {H : Hp} : ∀ {vs : List V} {ts : List T}, ts.all flT = true → Reps K H vs ts → vs = ts.map toV
 | vs, [], _, r => by unfold Reps at r; exact r
 | vs, t :: ts, f, r => by
   unfold Reps at r
   obtain ⟨v, w, rfl, r1, r2⟩ := r
   rw [List.all_cons, Bool.and_eq_true] at f
   rw [b3Z f.1 r1, a8o f.2 r2]
   rfl
theorem a6g {t : T} (f : flT t = true) : a5H (toV t) = true := by
 cases t <;> first | rfl | cases f
theorem a4R : ∀ {ts : List T}, ts.all flT = true → (ts.map toV).all a5H = true
 | [], _ => rfl
 | t :: ts, f => by
   rw [List.all_cons, Bool.and_eq_true] at f
   rw [List.map_cons, List.all_cons, a6g f.1, a4R f.2]
   rfl
theorem b6c {x y : T} (f : flT x = true) (g : flT y = true) : eqV (toV x) (toV y) = eqT x y := by
 cases x with
 | tup _ => cases f
 | adr _ => cases f
 | rd _ => cases f
 | dic _ _ => cases f
 | _ =>
   cases y with
   | tup _ => cases g
   | adr _ => cases g
   | rd _ => cases g
   | dic _ _ => cases g
   | _ => rfl
noncomputable def inT (x : T) (ts : List T) : Bool := ts.any fun y => eqT y x
theorem b0E {x : T} (f : flT x = true) : ∀ {ts : List T}, ts.all flT = true → inV (toV x) (ts.map toV) = inT x ts
 | [], _ => rfl
 | t :: ts, g => by
   rw [List.all_cons, Bool.and_eq_true] at g
   have := b0E f g.2
   unfold inV inT at this ⊢
   rw [List.map_cons, List.any_cons, List.any_cons, b6c g.1 f, this]
noncomputable def rIn3 (neg : Bool) : R3 := fun x y M Q => flT x = true ∧ match y with
 | .tup ts => ts.all flT = true ∧ Q (.bl (if neg then !inT x ts else inT x ts)) M
 | .adr p => match M p with
   | some (.lst ts) => ts.all flT = true ∧ Q (.bl (if neg then !inT x ts else inT x ts)) M
   | _ => False
 | _ => False
section
variable {X : Cx}
theorem b5n {neg : Bool} {f : Value → Value → Sem Value} (ho : OpR X f (rIn X.K neg)) : OpR3 X f (rIn3 neg) := by
 intro pins s σ H x y v u Q2 I rx ry q
 obtain ⟨a, b, M, Q, r1, r2, hh, q, en⟩ := q
 unfold rIn3 at q
 obtain ⟨fa, q⟩ := q
 obtain rfl := b3Z fa r1
 split at q
 ·obtain ⟨p, xs, rfl, h1, h2⟩ := a1e r2
  obtain rfl := a8o q.1 h2
  refine ho pins s σ H _ _ v u Q2 I rx ry ⟨p, _, rfl, .inr h1, a6g fa, a4R q.1, ?_⟩
  rw [b0E fa q.1]
  exact en _ _ M H Kp.refl hh a2N q.2
 ·rename_i p
  split at q
  ·rename_i ts e
   obtain ⟨xs, h1, h2⟩ := hh _ _ e
   obtain rfl := a0A r2
   obtain rfl := a8o q.1 h2
   refine ho pins s σ H _ _ v u Q2 I rx ry ⟨p, _, rfl, (.inl (.inl (.inl h1))), a6g fa, a4R q.1, ?_⟩
   rw [b0E fa q.1]
   exact en _ _ M H Kp.refl hh a2N q.2
  ·exact q.elim
 ·exact q.elim
theorem b1t : OpR3 X (compareOp .NotIn) (rIn3 true) := b5n a7g
end
section
variable {X : Cx} {Ha : Hp} {body : List Stmt} {pos : Pos}
end
end L2
namespace L2
open PySem PySem.Spec PyProof.Rows
open AutoSeq1 (wpAny_loadPart')
section
variable {prog : Program} {w : World} {A : Around} {E : Value → Shared → Prop} {s : Shared}
end
section
variable {X : Cx}
end
theorem a6Y {es rest : List Expr} {x1} {pos : Pos} {env : Env} : starEach (.Tuple es x1 pos :: rest) env = (false, eval (.Tuple es x1 pos) env) :: starEach rest env := rfl
theorem a1Q {X : Cx} {es1 es : List Expr} {x1} {pos : Pos} {ta : TE3} {t : TA3} (ha : HE X (.Tuple es1 x1 pos) ta) (hr : HA X es t) : HA X (.Tuple es1 x1 pos :: es) (b0I ta t) := a0a ha hr (hs := a6Y)
end L2
namespace L2
open PySem PySem.Spec PyProof.Rows
section
variable {prog : Program} {w : World} {A : Around} {E : Value → Shared → Prop} {s : Shared}
end
section
variable {X : Cx}
theorem a7c {K : PySem.W.Frag} {H : Hp} : ∀ {ns : List Int} {vs : List V}, Reps K H vs (ns.map .int) → vs = ns.map V.int
 | [], _, r => by unfold Reps at r; exact r
 | n :: ns, _, r => by
   rw [List.map_cons] at r
   unfold Reps at r
   obtain ⟨v, w, rfl, r1, r2⟩ := r
   obtain rfl := a0q r1
   rw [a7c r2]
   rfl
theorem a5k {K : PySem.W.Frag} {H : Hp} : ∀ ns : List Int, Reps K H (ns.map V.int) (ns.map .int)
 | [] => by rw [List.map_nil, List.map_nil]; unfold Reps; rfl
 | n :: ns => by
   rw [List.map_cons, List.map_cons]
   unfold Reps
   exact ⟨_, _, rfl, a0x, a5k ns⟩
end
theorem a4B {α : Type} {us : List α} {P : List α → Prop} (hl : us.length = 1) (h : ∀ a : α, P [a]) : P us := by
 obtain ⟨a, rfl⟩ := List.length_eq_one_iff.mp hl
 exact h a
theorem a4t {α : Type} {us : List α} {P : List α → Prop} (hl : us.length = 2) (h : ∀ a b : α, P [a, b]) : P us := by
 obtain ⟨a, r, rfl⟩ := List.exists_cons_of_length_eq_add_one hl
 exact a4B (P := fun r => P (a :: r)) (Nat.succ.inj hl) (h a)
theorem b0n {α : Type} {us : List α} {P : List α → Prop} (hl : us.length = 3) (h : ∀ a b c : α, P [a, b, c]) : P us := by
 obtain ⟨a, r, rfl⟩ := List.exists_cons_of_length_eq_add_one hl
 exact a4t (P := fun r => P (a :: r)) (Nat.succ.inj hl) (h a)
section
variable {X : Cx}
end
section
variable {X : Cx}
end
end L2
namespace L2
open PySem PySem.Spec PyProof.Rows LM
section
variable {κ : Type} [DecidableEq κ]
end
section
variable {X : Cx}
end
noncomputable def g2 (tab : List (List Int)) (a b : Int) : Int := gI (tab.getD a.toNat []) b
noncomputable def InM (m c : Int) : Prop := 0 ≤ c ∧ c < m
structure TabQ (tab : List (List Int)) : Prop where
 l1 : 1 ≤ tab.length
 rows : ∀ r ∈ tab, r.length = tab.length
 idem : ∀ c, InM tab.length c → g2 tab c c = c
 col : ∀ c, InM tab.length c → (tab.map fun r => gI r c).Perm (b6C tab.length)
 third : ∀ a b c, InM tab.length a → InM tab.length b → InM tab.length c → g2 tab (g2 tab a b) c = g2 tab (g2 tab a c) (g2 tab b c)
structure TabOK (tab : List (List Int)) : Prop extends TabQ tab where
 l7 : tab.length ≤ 7
instance {tab : List (List Int)} : Coe (TabOK tab) (TabQ tab) := ⟨TabOK.toTabQ⟩
section
variable {X : Cx}
end
section
variable {prog : Program} {w : World} {A : Around} {E : Value → Shared → Prop} {s : Shared}
end
section
variable {X : Cx} {pos : Pos}
end
section
variable {X : Cx} {Ha : Hp} {a b : Expr} {ta tb : TE3} {tA : TT3} {pos : Pos}
end
section
variable {X : Cx} {Ha : Hp}
end
section
variable {X : Cx} {pos : Pos}
end
section
variable {X : Cx}
end
section
variable {X : Cx}
end
section
variable {X : Cx} {e : Expr} {te : TE3} {p p2 pos pos2 : Pos}
end
section
variable {X : Cx}
end
section
variable {P : Program} {w : World} {A : Around} {E : Value → Shared → Prop} {s : Shared}
theorem a7v {d : Addr} {o : Obj} {es : Array DictEntry} {ep : Nat} {Q : Value → Shared → Prop} (hd : (d == sysModules) = false) (ho : s.heap.get? d = some o) (hc : o.ExactDict) (hdat : o.data = .dict es ep)
  (hQ : ∀ s1 it, it = s.heap.objs.size → s1.toks = s.toks → s1.gens = s.gens → s1 = { s with heap := s.heap.push { cls := .type "dict_keyiterator", data := .fields #[.ref d, .int 0 0, .int es.size 0, .int ep 0] } } → Q (.ref it) s1) : wpAny (model P w) A (pyIter (.ref d)) Q E s := by
 have hT : s.TypeIs (.ref d) "dict" := ⟨o, ho, hc.1⟩
 refine wpAny_pyIter_slot hT F.slot_dict_iter (wpAny_call_entry F.slot_dict_iter hT F.entry_dict_iter (by
  unfold Builtin.«dict.__iter__»; refine wpAny_bind ?_; unfold Builtin.Dict.dictSlotNone
  refine wpAny_bind (wpAny_notOrdered_dict hT (by
   show wpAny _ _ (pure (Value.ref d)) _ _ s; refine wpAny_pure ?_
   show wpAny _ _ (Builtin.Dict.showsAll d >>= _) _ _ s; unfold Builtin.Dict.showsAll; rw [if_neg (fun z => by rw [hd] at z; cases z)]
   refine wpAny_bind (wpAny_pure (wpAny_bind (wpAny_dictEntries ho hdat (wpAny_bind (wpAny_dictEpoch ho hdat (wpAny_bind (wpAny_newObj_type (wpAny_pure ⟨_, rfl, "dict_keyiterator", _, ⟨_, Heap.get?_push_size _ rfl, rfl⟩, F.slot_dict_keyiterator_next.lookup, ?_⟩))))))))
   exact hQ _ _ rfl rfl rfl (by simp [rawInt])))) (F.args_dict_iter_1 _))
theorem a8E {it d : Addr} {o : Obj} {es : Array DictEntry} {ep i : Nat} {e : DictEntry} {Q : Option Value → Shared → Prop} (hit : s.heap.IsKeyIter it d i es.size ep) (ho : s.heap.get? d = some o) (hdat : o.data = .dict es ep) (hx : es[i]? = some e)
  (hQ : ∀ h', h'.IsKeyIter it d (i + 1) es.size ep → Heap.SameBut it s.heap h' → Q (some e.key) { s with heap := h' }) : wpAny (model P w) A (pyNext (.ref it)) Q E s := by
 obtain ⟨oi, hoi, hci, hdi⟩ := id hit; unfold pyNext
 refine wpAny_bind (wpAny_attempt (wpAny_callSpecial?_slot (name := Str.ofString "__next__") hit.typeIs F.slot_dict_keyiterator_next (wpAny_call_entry F.slot_dict_keyiterator_next hit.typeIs F.entry_dict_keyiterator_next (wpAny_bind (wpAny_pure (wpAny_bind (wpAny_bind ?_)))) (F.args_dict_keyiterator_next_1 _))))
 first | refine wpAny_bind (wpAny_typeNameOfWhole_keyiter hit.typeIs (wpAny_pure (wpAny_fieldsOf hoi hdi ?_ |> wpAny_bind))) | refine wpAny_bind (wpAny_typeNameOf_keyiter hit.typeIs (wpAny_pure (wpAny_fieldsOf hoi hdi ?_ |> wpAny_bind)))
 simp only [show Builtin.Dict_items.ownsTuple "dict_keyiterator" = false by decide, Bool.false_eq_true, if_false]
 show wpAny _ _ (if (Value.ref d == Value.none) = true then _ else _) _ _ s; rw [if_neg (fun z => by cases z)]
 refine wpAny_bind (wpAny_pure (wpAny_bind (wpAny_dictEntries ho hdat ?_))); rw [if_neg (by simp)]
 refine wpAny_bind (wpAny_pure (wpAny_bind (wpAny_dictEpoch ho hdat ?_))); rw [if_neg (by simp)]; refine wpAny_pure ?_
 simp only [show ¬ ((i : Int) < 0) from by lia, if_false, Int.toNat_natCast, hx]
 refine wpAny_bind ?_
 first | refine wpAny_bind (wpAny_typeNameOfWhole_keyiter hit.typeIs (wpAny_pure (wpAny_bind (wpAny_isOneOf_keyiter hit.typeIs ?_)))) | refine wpAny_bind (wpAny_typeNameOf_keyiter hit.typeIs (wpAny_pure (wpAny_bind (wpAny_isOneOf_keyiter hit.typeIs ?_))))
 show wpAny _ _ (setField (.ref it) 1 (rawInt ((i : Int) + 1)) >>= _) _ _ s; refine wpAny_bind (wpAny_setField hoi hdi (by simp) ?_)
 have hit' : (s.heap.update it (Obj.mapFields (·.setIfInBounds 1 (rawInt ((i : Int) + 1))))).IsKeyIter it d (i + 1) es.size ep := ⟨_, Heap.get?_update_self _ hoi (Obj.isFreed_of_fields (Obj.data_mapFields hdi _)), (Obj.cls_mapFields ..).trans hci, by rw [Obj.data_mapFields hdi]; simp [rawInt]⟩
 refine wpAny_bind (wpAny_holding (wpAny_bind (wpAny_isOneOf_keyiter (s := { s with heap := s.heap.update it (Obj.mapFields (·.setIfInBounds 1 (rawInt ((i : Int) + 1)))) }) hit'.typeIs ?_)))
 show wpAny _ _ (pure e.key) _ _ _; exact wpAny_pure (wpAny_pure ⟨_, rfl, wpAny_pure (hQ _ hit' (Heap.SameBut.update ..))⟩)
theorem a8D {it d : Addr} {o : Obj} {es : Array DictEntry} {ep i : Nat} {Q : Option Value → Shared → Prop} (hh : A.handled = none) (hit : s.heap.IsKeyIter it d i es.size ep) (ho : s.heap.get? d = some o) (hdat : o.data = .dict es ep) (hx : es[i]? = none)
  (hQ : ∀ h', Heap.ExtBut it s.heap h' → Q none { s with heap := h' }) : wpAny (model P w) A (pyNext (.ref it)) Q E s := by
 obtain ⟨oi, hoi, hci, hdi⟩ := id hit; unfold pyNext
 refine wpAny_bind (wpAny_attempt (wpAny_callSpecial?_slot (name := Str.ofString "__next__") hit.typeIs F.slot_dict_keyiterator_next (wpAny_call_entry F.slot_dict_keyiterator_next hit.typeIs F.entry_dict_keyiterator_next (wpAny_bind (wpAny_pure (wpAny_bind (wpAny_bind ?_)))) (F.args_dict_keyiterator_next_1 _))))
 first | refine wpAny_bind (wpAny_typeNameOfWhole_keyiter hit.typeIs (wpAny_pure (wpAny_fieldsOf hoi hdi ?_ |> wpAny_bind))) | refine wpAny_bind (wpAny_typeNameOf_keyiter hit.typeIs (wpAny_pure (wpAny_fieldsOf hoi hdi ?_ |> wpAny_bind)))
 simp only [show Builtin.Dict_items.ownsTuple "dict_keyiterator" = false by decide, Bool.false_eq_true, if_false]
 show wpAny _ _ (if (Value.ref d == Value.none) = true then _ else _) _ _ s; rw [if_neg (fun z => by cases z)]
 refine wpAny_bind (wpAny_pure (wpAny_bind (wpAny_dictEntries ho hdat ?_))); rw [if_neg (by simp)]
 refine wpAny_bind (wpAny_pure (wpAny_bind (wpAny_dictEpoch ho hdat ?_))); rw [if_neg (by simp)]; refine wpAny_pure ?_
 simp only [show ¬ ((i : Int) < 0) from by lia, if_false, Int.toNat_natCast, hx]
 refine wpAny_bind ?_
 refine wpAny_bind (wpAny_typeNameOfWhole_keyiter hit.typeIs (wpAny_pure ?_))
 show wpAny _ _ (setField (.ref it) 0 .none >>= _) _ _ s; refine wpAny_bind (wpAny_setField hoi hdi (by simp) ?_)
 show wpAny _ _ (newExc (.type "StopIteration") [] >>= _) _ _ _; refine wpAny_bind ?_
 simp only [newExc, newTuple]; refine wpAny_bind (wpAny_newObj_type ?_ (by size_fits))
 refine wpAny_bind (m := firstArgMember _ _) (wpAny_of_eq (a := Value.none) (by first | rfl | (simp only [firstArgMember]; rfl)) (wpAny_newObj_type ?_ (by size_fits)))
 simp only [raiseNew]; refine wpAny_bind (wpAny_handled ?_); rw [show A.in1.handled = none from hh]
 refine wpAny_bind (wpAny_pure (wpAny_throw ?_)); refine wpAny_bind (wpAny_isInstance (T := "StopIteration") (b := true) ⟨_, Heap.get?_push_size _ rfl, rfl⟩ isSubtype_stop (wpAny_pure (hQ _ (((Heap.SameBut.update ..).extBut.push _).push _))))
end
theorem a5c {α β : Type} {F : α → β → Prop} : ∀ {xs : List α} {ys : List β} {i : Nat} {x : α}, Paired F xs ys → xs[i]? = some x → ∃ y, ys[i]? = some y ∧ F x y
 | _, _, _, _, .nil, e => by simp at e
 | _, _, 0, _, .cons r _, e => by simp at e; subst e; exact ⟨_, rfl, r⟩
 | _, _, i + 1, x, .cons _ t, e => by
   obtain ⟨u, h1, h2⟩ := a5c (i := i) (x := x) t (by simpa using e)
   exact ⟨u, by simpa using h1, h2⟩
theorem b1L {κ : Type} {K : PySem.W.Frag} {H : Hp} : ∀ {xs : List (κ × V)} {kvs : List (κ × T)} {i : Nat} {kv : κ × T}, KRep K H xs kvs → kvs[i]? = some kv → ∃ x, xs[i]? = some x ∧ x.1 = kv.1
 | [], [], _, _, _, e => by simp at e
 | p :: r, q :: u, 0, kv, h, e => by simp at e; subst e; exact ⟨p, rfl, h.1⟩
 | p :: r, q :: u, i + 1, kv, h, e => by
   obtain ⟨x, a, b⟩ := b1L (i := i) h.2.2 (by simpa using e)
   exact ⟨x, by simpa using a, b⟩
 | [], q :: u, _, _, h, _ => h.elim
 | p :: r, [], _, _, h, _ => h.elim
section
variable {X : Cx}
end
section
variable {X : Cx}
end
noncomputable def sgI (l : Int) : Int := if l < 0 then -1 else 1
section
variable {P : Program} {w : World} {A : Around} {E : Value → Shared → Prop} {s : Shared}
theorem a7n : typeLookup (.type "tuple") "keys" = pure none := by rw [typeLookup_type, builtinLookup_eq_fast]; kernel_rfl
set_option maxRecDepth 8000 in
theorem a5v {a : Addr} {xs : Array Value} {k : Nat} {sl : Array (Option Value)} {Q : Option Value → Shared → Prop} (hx : s.heap.get? a = some { cls := .type "tuple", dict := none, data := .seq xs k, slots := sl }) (hA : A.handled = none)
  (h : ∀ h' tk, (∀ b o, s.heap.get? b = some o → h'.get? b = some o) → Q none { s with heap := h', toks := tk }) : wpAny (model P w) A (getAttr? (.ref a) "keys") Q E s := by
 obtain ⟨hp, g, d, tk, os⟩ := s
 have hT : ∀ tk', (⟨hp, g, d, tk', os⟩ : Shared).TypeIs (.ref a) "tuple" := fun _ => ⟨_, hx, rfl⟩
 have f1 := sub_AttributeError; have f3 := F.slot_tuple_getattribute.lookup; have f4 := F.slot_tuple_getattribute.bind (.ref a); have f5 := am_tuple_getattr_none
 have hname : (["__module__", "__name__", "__qualname__", "__doc__", "__annotations__"] : List Str).contains "keys" = false := by decide +kernel
 unfold getAttr? getAttrBy? getAttrBy
 repeat (any_goals (first | exact hT _ | assumption | ((with_reducible show wpAny _ _ (call (Value.builtin "tuple.__getattribute__") _ _) _ _ _); refine call_meets F.slot_tuple_getattribute (hT _) am_entry_tuple_getattribute (F.args_tuple_getattribute_2 _ _) (meets_getattribute_miss_tuple a xs k sl "keys" _ a7n hname (by rw [sizeLine_eq]; decide +kernel)) ⟨hx, hA, fun h' tk' e hx' => ?_⟩) | wp_step))
 obtain ⟨t', u', he⟩ := hx'.there
 show wpAny _ _ (getattributeRaised _ _ _ _ _ _ _) _ _ _
 unfold getattributeRaised
 repeat (any_goals (first | wp_step | assumption))
 exact h _ _ hx'.of.keeps
theorem a5b : entryFor table "dict.update.loop" = some Builtin.«dict.update.loop» := entryFor_of_tree (by kernel_rfl)
theorem a3l : plainId "dict.update.loop" = true := by decide +kernel
theorem a5M {K : Type} [DecidableEq K] {knd : KeyKind P w K} {I d : Addr} {fp wr : List Addr} {n : Nat} {V : Nat → Value → Prop} {St : Nat → Heap → Prop} (W : Walks P w A.in1 I fp wr n V St) (hdf : d ∉ fp) (res : Value) (ks : List (K × Value)) (hn : ks.length = n) (hz : n ≤ sizeLine) (h0 : Heap)
  (hV : ∀ i v, V i v → ∃ p k x key, v = .ref p ∧ ks[i]? = some (k, x) ∧ knd.is k key = true ∧ h0.IsTuple p #[key, x] ∧ p ≠ d ∧ p ∉ wr) {R : Result → Shared → Prop} :
  ∀ (m i : Nat) (s : Shared), n - i = m → i ≤ n → St i s.heap → s.heap.DictOf knd d (merged [] (ks.take i)) → (∀ b o, b ≠ d → b ∉ wr → h0.get? b = some o → s.heap.get? b = some o) →
    (∀ h' tk, h'.DictOf knd d (merged [] ks) → (∀ b o, b ≠ d → b ∉ wr → h0.get? b = some o → h'.get? b = some o) → R (.ok (.ret res)) { s with heap := h', toks := tk }) →
    codeAny (model P w) A (.builtin "dict.update.loop" ⟨[.ref d, .ref I, rawInt i, res], []⟩) R s
 | 0, i, s, hm, hi, st, hd, hk, hR => by
   obtain rfl : i = n := by lia
   refine codeAny_builtin a5b ?_
   rw [Around.under_plainId a3l _]
   show wpAny _ A.in1 (pyNext (.ref I) >>= _) _ _ s
   refine wpAny_bind (W.done s _ _ st fun h' tk hk' => ?_)
   show wpAny _ _ (Builtin.Dict.addKeywords d [] >>= _) _ _ _
   refine wpAny_bind (wpAny_pure (wpAny_pure (hR h' tk ?_ fun b o b1 b2 e => hk' b o b2 (hk b o b1 b2 e))))
   rw [← hn, List.take_length] at hd
   obtain ⟨o, es, ep, g, r⟩ := hd
   exact ⟨o, es, ep, hk' d o (fun z => hdf (W.sub _ z)) g, r⟩
 | m + 1, i, s, hm, hi, st, hd, hk, hR => by
   refine codeAny_builtin a5b ?_
   rw [Around.under_plainId a3l _]
   show wpAny _ A.in1 (pyNext (.ref I) >>= _) _ _ s
   refine wpAny_bind (W.item i s _ _ (by lia) st fun v h' tk hv st' hk' => ?_)
   obtain ⟨p, k, x, key, rfl, ek, hkey, hp, np1, np2⟩ := hV i v hv
   have hd' : h'.DictOf knd d (merged [] (ks.take i)) := by
    obtain ⟨o, es, ep, g, r⟩ := hd
    exact ⟨o, es, ep, hk' d o (fun z => hdf (W.sub _ z)) g, r⟩
   obtain ⟨o, ho, hc, nn, hdat⟩ := hp
   have ho' : h'.get? p = some o := hk' p o np2 (hk p o np1 np2 ho)
   show wpAny _ _ (holding [Value.ref p] _ >>= _) _ _ _
   refine wpAny_bind (wpAny_holding (wpAny_bind (wpAny_tryCatch ?_)))
   unfold Builtin.Dict.pairItems
   refine wpAny_bind (wpAny_typeOf (T := "tuple") ⟨o, ho', hc⟩ ?_)
   rw [if_pos (by decide)]
   refine wpAny_bind (wpAny_seqItems ho' hdat (wpAny_pure ?_))
   show wpAny _ _ (holding [key, x] (dictSet d key x)) _ _ _
   have hle : (merged [] (ks.take i)).length ≤ sizeLine := by
    have e1 := merged_length_le ([] : List (K × Value)) (ks.take i)
    have e2 : (ks.take i).length ≤ ks.length := by rw [List.length_take]; lia
    simp only [List.length_nil] at e1
    lia
   refine wpAny_holding (wpAny_dictSet_pairs (hsz := hle) hkey hd' fun h'' hd'' hs'' => ?_)
   refine wpAny_pure ⟨plainId_quiet a3l _, ?_⟩
   have := a5M W hdf res ks hn hz h0 hV (R := R) m (i + 1) { s with heap := h'', toks := tk + 1 } (by lia) (by lia) (W.frame _ _ _ st' fun b hb o e => ?_) ?_ (fun b o b1 b2 e => ?_) hR
   ·exact this
   ·exact (hs''.2 b (fun z => hdf (z ▸ hb))).trans e
   ·rw [merged_take_succ [] ks i (k, x) ek]; exact hd''
   ·exact (hs''.2 b b1).trans (hk' b o b2 (hk b o b1 b2 e))
end
section
variable {P : Program} {w : World} {A : Around} {E : Value → Shared → Prop} {s : Shared} {K : Type} [DecidableEq K] {knd : KeyKind P w K}
theorem a6L {o : Addr} {vs : List Value} {kk : Nat} {sl : Array (Option Value)} {ks : List (K × Value)} {Q : Value → Shared → Prop} (ho : s.heap.get? o = some { cls := .type "tuple", dict := none, data := .seq vs.toArray kk, slots := sl }) (hA : A.handled = none)
  (hl : ks.length = vs.length) (hz : vs.length ≤ sizeLine) (hV : ∀ (i : Nat) (v : Value), vs[i]? = some v → ∃ p k x key, v = .ref p ∧ ks[i]? = some (k, x) ∧ knd.is k key = true ∧ s.heap.IsTuple p #[key, x])
  (h : ∀ h' tk, h'.DictOf knd s.heap.objs.size (merged [] ks) → (∀ b u, s.heap.get? b = some u → h'.get? b = some u) → Q (Value.ref s.heap.objs.size) { s with heap := h', toks := tk }) :
  wpAny (model P w) A (call (.type "dict") [.ref o]) Q E s := by
 refine callType_codes (Q₁ := fun obj s₁ => obj = Value.ref s.heap.objs.size ∧ s₁ = { s with heap := s.heap.push { cls := .type "dict", data := .dict #[] } }) F.kt_called_dict (F.kt_typeCall_dict_1 _) F.entry_dict_init (kt_code_dict_new _ ⟨rfl, rfl⟩) ?_
 rintro obj s₁ ⟨rfl, rfl⟩
 have hnew : (s.heap.push { cls := .type "dict", data := .dict #[] }).DictOf knd s.heap.objs.size [] := Heap.DictOf.new s.heap
 have hdo : s.heap.objs.size ≠ o := Nat.ne_of_gt (Heap.lt_size ho)
 have ho' := Heap.get?_push_of_some { cls := .type "dict", data := .dict #[] } ho
 refine ⟨hnew.typeIs, F.args_dict_init_2 _ _, ?_⟩
 unfold Builtin.«dict.__init__» Builtin.Dict.selfAndRest; refine wpAny_bind (wpAny_bind (wpAny_notOrdered_dict hnew.typeIs ?_))
 show wpAny _ _ (pure (s.heap.objs.size, [Value.ref o])) _ _ _; refine wpAny_pure ?_
 show wpAny _ _ (Builtin.Dict.updateFrom "dict.__init__" s.heap.objs.size (.ref o) [] .none) _ _ _; unfold Builtin.Dict.updateFrom
 refine wpAny_bind (wpAny_typeOf (T := "tuple") ⟨_, ho', rfl⟩ ?_); rw [if_pos (by decide)]
 refine wpAny_bind (a5v ho' hA fun h1 tk1 k1 => ?_); rw [if_pos (by rfl)]
 have ho1 := k1 _ _ ho'
 refine wpAny_bind (wpAny_rule (wpAny_bind (wpAny_pyIter_tuple (items := vs.toArray) ⟨_, ho1, rfl, kk, rfl⟩ ?_)))
 have hI : h1.objs.size ≠ o := Nat.ne_of_gt (Heap.lt_size ho1)
 have hd1 : h1.DictOf knd s.heap.objs.size [] := by
  obtain ⟨a, es, ep, g, r⟩ := hnew
  exact ⟨a, es, ep, k1 _ _ g, r⟩
 have hdI : s.heap.objs.size ≠ h1.objs.size := by
  obtain ⟨a, es, ep, g, r⟩ := hd1
  exact Nat.ne_of_lt (Heap.lt_size g)
 have W := Walks.tuple (prog := P) (w := w) (A := A.in1.in1) (by exact hA) h1.objs.size o (Ne.symm hI) vs.toArray
 refine wpAny_pure ⟨plainId_quiet a3l _, a5M (knd := knd) (A := A.in1) (h0 := s.heap) (W := W) (d := s.heap.objs.size) (by simp only [List.mem_cons, List.not_mem_nil, or_false, not_or]; exact ⟨hdI, hdo⟩) _ ks (by simpa using hl) (by simpa using hz) ?_ vs.toArray.size 0 _ rfl (Nat.zero_le _) ⟨⟨_, Heap.get?_push_size _ rfl, rfl, rfl⟩, ⟨_, Heap.get?_push_of_some _ ho1, rfl, kk, rfl⟩⟩ (hd1.push _) (fun b u _ _ e => Heap.get?_push_of_some _ (k1 _ _ (Heap.get?_push_of_some _ e))) fun h' tk hd' hk' => ?_⟩
 ·intro i v hv
  obtain ⟨p, k, x, key, e1, e2, e3, e4⟩ := hV i v (by simpa using hv)
  obtain ⟨ob, g, c⟩ := id e4
  refine ⟨p, k, x, key, e1, e2, e3, e4, Nat.ne_of_lt (Heap.lt_size g), fun z => ?_⟩
  have z2 : p = h1.objs.size := by simpa using z
  exact absurd (Heap.lt_size (k1 _ _ (Heap.get?_push_of_some _ g))) (by rw [z2]; exact Nat.lt_irrefl _)
 ·refine ⟨rfl, h h' tk hd' fun b u e => hk' b u (Nat.ne_of_lt (Heap.lt_size e)) (fun z => ?_) e⟩
  have z2 : b = h1.objs.size := by simpa using z
  exact absurd (Heap.lt_size (k1 _ _ (Heap.get?_push_of_some _ e))) (by rw [z2]; exact Nat.lt_irrefl _)
end
noncomputable def b5i (kv : Key × T) : T := .tup [keyT kv.1, kv.2]
noncomputable def b1g : List T → MH → VK3 → Prop := fun xs M Q => match xs with
 | [.tup ts] => ∃ ks : List (Key × T), ts = ks.map b5i ∧ (ks.map Prod.fst).Nodup ∧ ∀ r, M r = none → Q (.adr r) (updM M r (.dk ks))
 | _ => False
section
variable {X : Cx}
theorem b2T {k : Key} {key : Value} (r : RelV (kV k) key) : a5D k key = true := by
 cases k with
 | inl i => obtain ⟨t, rfl⟩ := r; exact a7x i t
 | inr x => obtain ⟨t, rfl⟩ := r; exact a7w x t
theorem a9o {pins : List (Addr × Obj)} {σ : St} {H : Hp} {s : Shared} (I : Inv X pins σ H s) : ∀ {ks : List (Key × T)} {xs : List V} {its : List Value}, Reps X.K H xs (ks.map b5i) → Vals xs its →
  ∃ (vs : List (Key × Value)) (kv : List (Key × V)), vs.length = its.length ∧ KV kv vs ∧ KRep X.K H kv ks ∧ ∀ (i : Nat) (v : Value), its[i]? = some v → ∃ p k x key, v = .ref p ∧ vs[i]? = some (k, x) ∧ a5D k key = true ∧ s.heap.IsTuple p #[key, x]
 | [], xs, its, r, rv => by
   rw [List.map_nil] at r
   unfold Reps at r
   subst r
   cases rv
   exact ⟨[], [], rfl, .nil, trivial, fun i v e => by simp at e⟩
 | (k, t) :: ks, xs, its, r, rv => by
   rw [List.map_cons] at r
   unfold Reps at r
   obtain ⟨v, w, rfl, r1, r2⟩ := r
   cases rv with
   | @cons _ u _ us h1 h2 =>
     obtain ⟨vs, kv, hl, hk, hr, hat⟩ := a9o I r2 h2
     obtain ⟨p, ys, rfl, g1, g2⟩ := a1e r1
     obtain ⟨y1, y2, rfl, q1, q2⟩ := b4G g2
     obtain rfl := a3y q1
     cases h1
     obtain ⟨js, jv, jt, jz⟩ := I.tuple g1
     cases jv with
     | @cons _ key _ js2 a1 a2 =>
       cases a2 with
       | @cons _ x _ js3 b1 b2 =>
         cases b2
         refine ⟨(k, x) :: vs, (k, y2) :: kv, by rw [List.length_cons, List.length_cons, hl], .cons ⟨rfl, b1⟩ hk, ⟨rfl, q2, hr⟩, fun i v e => ?_⟩
         cases i with
         | zero =>
           simp at e
           subst e
           exact ⟨p, k, x, key, rfl, rfl, b2T a1, jt⟩
         | succ i =>
           obtain ⟨p', k', x', key', e1, e2, e3⟩ := hat i v (by simpa using e)
           exact ⟨p', k', x', key', e1, by simpa using e2, e3⟩
theorem a4u {K : PySem.W.Frag} {H : Hp} : ∀ {kv : List (Key × V)} {ks : List (Key × T)}, KRep K H kv ks → kv.map Prod.fst = ks.map Prod.fst
 | [], [], _ => rfl
 | p :: r, q :: u, h => by rw [List.map_cons, List.map_cons, h.1, a4u h.2.2]
 | [], q :: u, h => h.elim
 | p :: r, [], h => h.elim
theorem a8R (hc : X.calm = true) : a2R X (.type "dict") b1g := by
 intro pins s σ H vs us Q2 I r h
 obtain ⟨xs, M, Q, rr, hh, q, en⟩ := h
 unfold b1g at q
 split at q
 ·rename_i ts
  obtain ⟨ks, rfl, hnd, q⟩ := q
  obtain ⟨v, rfl, r1⟩ := a2a rr
  obtain ⟨p, ys, rfl, g1, g2⟩ := a1e r1
  obtain ⟨u, rfl, rx⟩ := a4h r
  cases rx
  obtain ⟨its, rv, ⟨ob, ho, hcl, hdd, nn, hdat⟩, hz⟩ := I.tuple0 g1
  obtain ⟨vs, kv, hl, hk, hr, hat⟩ := a9o I g2 rv
  have hlen := rv.length
  obtain ⟨c1, c2, c3, c4⟩ := ob
  simp only at hcl hdd hdat
  subst hcl hdd hdat
  have hndv : (vs.map (·.1)).Nodup := by
   have e1 := hk.keys
   have e2 := a4u hr
   rw [← e1]
   exact e2 ▸ hnd
  refine a6L (knd := a0F X.prog X.w) ho (I.ok.hd hc) hl (by lia) hat fun h' tk hd' hk' => ?_
  rw [merged_nil_of_nodup vs hndv] at hd'
  have hfr : H s.heap.objs.size = none := I.hok.fresh (Nat.le_refl _)
  have hsys : (s.heap.objs.size == sysModules) = false := by
   have := I.big
   simp only [beq_eq_false_iff_ne, ne_eq]
   exact fun z => absurd this (by rw [z]; exact Nat.lt_irrefl _)
  have kvl : kv.length ≤ sizeLine := by
   have := hk.length
   lia
  exact ⟨.ref s.heap.objs.size, _, I.laid (t' := tk) hk' (Nat.le_refl _) (show a0Q X.prog X.w _ h' _ (.dK kv) from ⟨kvl, hsys, vs, hk, hd'⟩), rfl, en _ _ _ _ (Kp.new hfr) (hh.newK hfr hr) a1r (q _ (hh.free hfr))⟩
 ·exact q.elim
noncomputable def a6p : List T → MH → VK3 → Prop := fun xs M Q => match xs with
 | [.adr p] => (match M p with | some (.dk kvs) => ∃ ns : List Int, kvs.map Prod.fst = ns.map Sum.inl ∧ ns.length < 64 ∧ ∀ ms : List Int, ms.Perm ns → ms.Pairwise (· ≤ ·) → ∀ r, M r = none → Q (.adr r) (updM M r (.lst (ms.map .int))) | _ => False)
 | _ => False
end
section
variable {P : Program} {w : World} {A : Around} {E : Value → Shared → Prop} {s : Shared}
theorem a8V : ∀ {xs : List V} {us : List Value}, xs.length = us.length → (∀ (i : Nat) (x : V) (u : Value), xs[i]? = some x → us[i]? = some u → RelV x u) → Vals xs us
 | [], [], _, _ => .nil
 | [], u :: us, h, _ => by cases h
 | x :: xs, [], h, _ => by cases h
 | x :: xs, u :: us, h, f => .cons (f 0 x u rfl rfl) (a8V (by rw [List.length_cons, List.length_cons] at h; lia) fun i x' u' h1 h2 => f (i + 1) x' u' (by simpa using h1) (by simpa using h2))
theorem a4V {d : Addr} {kvs : List (Key × Value)} {ep : Nat} {ns : List Int} {Q : Value → Shared → Prop} (hA : A.handled = none) (hd : s.heap.DictAt (a0F P w) d kvs ep) (lo : (d == sysModules) = false) (hk : kvs.map (·.1) = ns.map Sum.inl) (h64 : ns.length < 64)
  (h : ∀ (h1 h' : Heap) (tk : Nat) (out : Array Value) (ns' : List Int), (∀ b u, s.heap.get? b = some u → h1.get? b = some u) → (∀ b u, h1.get? b = some u → h'.get? b = some u) → (∃ e, h'.get? h1.objs.size = some (seqObj "list" out e)) → IntsAre out.toList ns' → ns'.Perm ns → ns'.Pairwise (· ≤ ·) → Q (.ref h1.objs.size) { s with heap := h', toks := tk }) :
  wpAny (model P w) A (call (.builtin "sorted") [.ref d]) Q E s := by
 have hl : kvs.length = ns.length := by
  have := congrArg List.length hk
  rwa [List.length_map, List.length_map] at this
 refine Calls.call_function_entry kind_sorted plain_sorted entry_sorted (args_sorted1 _) ?_
 unfold Builtin.«sorted»
 refine wpAny_bind (m := checkCount "sorted" 1 1 _) (wpAny_pure (wpAny_bind (PySem.W.kdu_collect (A := A.in1) (PySem.W.kdl_dict (knd := a0F P w) (kvs := kvs) (ep := ep) lo) hA hd (by rw [hl, sizeLine_eq]; lia) fun h' tk acc hkp hacc => ?_)))
 obtain ⟨hsz, hat⟩ := hacc
 have hI : IntsAre acc.toList ns := a5U (a8V (by rw [List.length_map]; exact (hl.symm.trans hsz.symm).trans Array.length_toList.symm) fun i x u h1 h2 => by
  obtain ⟨k, y, e1, e2⟩ := hat i u (by rw [← Array.getElem?_toList]; exact h2)
  have e3 : (kvs.map (·.1))[i]? = some k := by rw [List.getElem?_map, e1]; rfl
  rw [hk, List.getElem?_map] at e3
  rw [List.getElem?_map] at h1
  cases en : ns[i]? with
  | none => rw [en] at h1; cases h1
  | some n =>
    rw [en] at e3 h1
    obtain rfl := Option.some.inj h1
    have e4 : Sum.inl n = k := Option.some.inj e3
    subst e4
    rw [a5P] at e2
    rcases a0I e2 with ⟨j, t, z1, z2⟩ | ⟨j, t, z1, z2⟩
    ·cases z1; exact ⟨t, z2⟩
    ·cases z1)
 refine wpAny_bind (wpAny_newList ?_)
 have hoL : (h'.push (seqObj "list" acc.toList.toArray 0)).get? h'.objs.size = some (seqObj "list" acc.toList.toArray 0) := Heap.get?_push_size _ rfl
 refine wpAny_bind (wpAny_holding (wpAny_call_entry slot_list_sort ⟨_, hoL, rfl⟩ entry_list_sort (list_sort_tree hoL hI (by rw [Array.length_toList, hsz, hl]; exact h64) fun out ns' a1 a2 a3 => ⟨_, rfl, ?_⟩) (args_list_sort _)))
 exact wpAny_pure ⟨_, rfl, h h' _ _ out ns' hkp (fun b u e => (sortedHeap_old (Nat.ne_of_lt (Heap.lt_size e)) (Nat.lt_of_lt_of_le (Heap.lt_size e) (by show h'.objs.size ≤ (h'.push (seqObj "list" acc.toList.toArray 0)).objs.size; rw [size_push']; exact Nat.le_succ _))).trans (Heap.get?_push_of_some _ e)) (sortedHeap_at hoL) a1 a2 a3⟩
end
section
variable {X : Cx}
theorem a6P (hc : X.calm = true) : a2R X (.builtin "sorted") a6p := by
 intro pins s σ H vs us Q2 I r h
 obtain ⟨xs, M, Q, rr, hh, q, en⟩ := h
 unfold a6p at q
 split at q
 ·obtain ⟨v, rfl, r1⟩ := a2a rr
  obtain rfl := a0A r1
  obtain ⟨u, rfl, rx⟩ := a4h r
  cases rx
  split at q
  ·rename_i kvs e0
   obtain ⟨ns, hk, h64, q⟩ := q
   obtain ⟨kv, g1, g2⟩ := hh _ _ e0
   obtain ⟨kz, lo, vs, r1, dd⟩ := (show a0Q X.prog X.w H s.heap _ (.dK kv) from I.hok _ _ g1)
   obtain ⟨ep, da⟩ := dd.dictAt
   have e1 : vs.map (·.1) = ns.map Sum.inl := by
    rw [← r1.keys]
    exact (a4u g2).trans hk
   refine a4V (I.ok.hd hc) da lo e1 h64 fun h1 h' tk out ns' hkp hkp2 ⟨e, hg⟩ a1 a2 a3 => ?_
   have I1 : Inv X pins σ H { s with heap := h1, toks := s.toks } := I.kept hkp
   have hfr : H h1.objs.size = none := I1.hok.fresh (Nat.le_refl _)
   have hn : ns'.length ≤ sizeLine := by rw [a2.length_eq, sizeLine_eq]; lia
   exact ⟨.ref h1.objs.size, _, I1.laid (t' := tk) hkp2 (Nat.le_refl _) (show a0Q X.prog X.w _ h' _ (.lst (ns'.map V.int)) from ⟨by rw [List.length_map]; exact hn, out.toList, e, a4g a1, by rw [Array.toArray_toList]; exact hg⟩), rfl, en _ _ _ _ (Kp.new hfr) (hh.newL hfr (a5k ns')) a1r (q ns' a2 a3 _ (hh.free hfr))⟩
  ·exact q.elim
 ·exact q.elim
end
noncomputable abbrev Po := List (Int × Int)
noncomputable def co : Po → Int → Int
 | [], _ => 0
 | x :: r, k => (if x.1 = k then x.2 else 0) + co r k
noncomputable def CanP (p : Po) : Prop := p.Pairwise (fun a b => a.1 < b.1) ∧ ∀ x ∈ p, x.2 ≠ 0
theorem a0X (p q : Po) (k : Int) : co (p ++ q) k = co p k + co q k := by
 induction p with
 | nil => show co q k = 0 + co q k; lia
 | cons x r ih =>
   show (if x.1 = k then x.2 else 0) + co (r ++ q) k = ((if x.1 = k then x.2 else 0) + co r k) + co q k
   rw [ih]; lia
theorem a3r {p : Po} {k : Int} (h : ∀ x ∈ p, x.1 ≠ k) : co p k = 0 := by
 induction p with
 | nil => rfl
 | cons x r ih =>
   show (if x.1 = k then x.2 else 0) + co r k = 0
   rw [if_neg (h x (.head _)), ih fun y hy => h y (.tail _ hy)]; rfl
theorem a7R {p : Po} (h : p.Pairwise (fun a b => a.1 < b.1)) {x : Int × Int} (hx : x ∈ p) : co p x.1 = x.2 := by
 induction p with
 | nil => cases hx
 | cons y r ih =>
   obtain ⟨h1, h2⟩ := List.pairwise_cons.mp h
   show (if y.1 = x.1 then y.2 else 0) + co r x.1 = x.2
   rcases List.mem_cons.mp hx with e | e
   ·subst e
    rw [if_pos rfl, a3r fun z hz => Int.ne_of_gt (h1 z hz)]; lia
   ·rw [if_neg (Int.ne_of_lt (h1 x e)), ih h2 e]; lia
theorem a3O : ∀ {p q : Po}, CanP p → CanP q → (∀ k, co p k = co q k) → p = q
 | [], [], _, _, _ => rfl
 | [], y :: q, _, hq, h => by
   have e := a7R hq.1 (List.mem_cons_self (a := y) (l := q))
   rw [← h] at e
   exact absurd e.symm (hq.2 y (.head _))
 | x :: p, [], hp, _, h => by
   have e := a7R hp.1 (List.mem_cons_self (a := x) (l := p))
   rw [h] at e
   exact absurd e.symm (hp.2 x (.head _))
 | x :: p, y :: q, hp, hq, h => by
   obtain ⟨p1, p2⟩ := List.pairwise_cons.mp hp.1
   obtain ⟨q1, q2⟩ := List.pairwise_cons.mp hq.1
   have ex := a7R hp.1 (List.mem_cons_self (a := x) (l := p))
   have ey := a7R hq.1 (List.mem_cons_self (a := y) (l := q))
   have nx := hp.2 x (.head _)
   have ny := hq.2 y (.head _)
   have e1 : x.1 = y.1 := by
    rcases Int.lt_trichotomy x.1 y.1 with z | z | z
    ·rw [h, a3r] at ex
     ·exact absurd ex.symm nx
     ·intro w hw
      rcases List.mem_cons.mp hw with e | e
      ·rw [e]; exact Int.ne_of_gt z
      ·exact Int.ne_of_gt (Int.lt_trans z (q1 w e))
    ·exact z
    ·rw [← h, a3r] at ey
     ·exact absurd ey.symm ny
     ·intro w hw
      rcases List.mem_cons.mp hw with e | e
      ·rw [e]; exact Int.ne_of_gt z
      ·exact Int.ne_of_gt (Int.lt_trans z (p1 w e))
   have e2 : x.2 = y.2 := by rw [← ex, ← ey, e1, h]
   have exy : x = y := Prod.ext e1 e2
   subst exy
   refine congrArg (x :: ·) (a3O ⟨p2, fun z hz => hp.2 z (.tail _ hz)⟩ ⟨q2, fun z hz => hq.2 z (.tail _ hz)⟩ fun k => ?_)
   have := h k
   have t : (if x.1 = k then x.2 else 0) + co p k = (if x.1 = k then x.2 else 0) + co q k := this
   lia
noncomputable def putP (k c : Int) : Po → Po
 | [] => if c = 0 then [] else [(k, c)]
 | x :: r => if k < x.1 then (if c = 0 then x :: r else (k, c) :: x :: r) else if k = x.1 then (if x.2 + c = 0 then r else (k, x.2 + c) :: r) else x :: putP k c r
noncomputable def norm : Po → Po
 | [] => []
 | x :: r => putP x.1 x.2 (norm r)
noncomputable def N1 : Po → Nat
 | [] => 0
 | x :: r => x.2.natAbs + N1 r
theorem b2n (k c : Int) : ∀ (p : Po) (j : Int), co (putP k c p) j = (if k = j then c else 0) + co p j
 | [], j => by
   show co (if c = 0 then [] else [(k, c)]) j = (if k = j then c else 0) + 0
   by_cases h : c = 0
   ·rw [if_pos h, h]
    show 0 = (if k = j then 0 else 0) + 0
    split <;> rfl
   ·rw [if_neg h]; rfl
 | x :: r, j => by
   show co (if k < x.1 then (if c = 0 then x :: r else (k, c) :: x :: r) else if k = x.1 then (if x.2 + c = 0 then r else (k, x.2 + c) :: r) else x :: putP k c r) j = (if k = j then c else 0) + ((if x.1 = j then x.2 else 0) + co r j)
   by_cases h1 : k < x.1
   ·rw [if_pos h1]
    by_cases h : c = 0
    ·rw [if_pos h, h]
     show (if x.1 = j then x.2 else 0) + co r j = _
     split <;> split <;> lia
    ·rw [if_neg h]; rfl
   ·rw [if_neg h1]
    by_cases h2 : k = x.1
    ·rw [if_pos h2]
     by_cases h : x.2 + c = 0
     ·rw [if_pos h]
      split <;> split <;> lia
     ·rw [if_neg h]
      show (if k = j then x.2 + c else 0) + co r j = _
      split <;> split <;> lia
    ·rw [if_neg h2]
     show (if x.1 = j then x.2 else 0) + co (putP k c r) j = _
     rw [b2n k c r j]; lia
theorem b1h {k c m : Int} (hk : m < k) : ∀ {p : Po}, (∀ x ∈ p, m < x.1) → ∀ x ∈ putP k c p, m < x.1
 | [], _, x, hx => by
   have hx : x ∈ (if c = 0 then [] else [(k, c)]) := hx
   split at hx
   ·cases hx
   ·rw [List.mem_singleton.mp hx]; exact hk
 | y :: r, h, x, hx => by
   have hx : x ∈ (if k < y.1 then (if c = 0 then y :: r else (k, c) :: y :: r) else if k = y.1 then (if y.2 + c = 0 then r else (k, y.2 + c) :: r) else y :: putP k c r) := hx
   split at hx
   ·split at hx
    ·exact h x hx
    ·rcases List.mem_cons.mp hx with e | e
     ·rw [e]; exact hk
     ·exact h x e
   ·split at hx
    ·split at hx
     ·exact h x (.tail _ hx)
     ·rcases List.mem_cons.mp hx with e | e
      ·rw [e]; exact hk
      ·exact h x (.tail _ e)
    ·rcases List.mem_cons.mp hx with e | e
     ·rw [e]; exact h y (.head _)
     ·exact b1h hk (fun z hz => h z (.tail _ hz)) x e
theorem a7U (k c : Int) : ∀ {p : Po}, CanP p → CanP (putP k c p)
 | [], _ => by
   show CanP (if c = 0 then [] else [(k, c)])
   split
   ·exact ⟨.nil, fun _ h => absurd h List.not_mem_nil⟩
   ·rename_i h
    exact ⟨List.pairwise_singleton _ _, fun x hx => by rw [List.mem_singleton.mp hx]; exact h⟩
 | y :: r, h => by
   obtain ⟨h1, h2⟩ := List.pairwise_cons.mp h.1
   show CanP (if k < y.1 then (if c = 0 then y :: r else (k, c) :: y :: r) else if k = y.1 then (if y.2 + c = 0 then r else (k, y.2 + c) :: r) else y :: putP k c r)
   split
   ·rename_i a
    split
    ·exact h
    ·rename_i b
     refine ⟨List.pairwise_cons.mpr ⟨fun z hz => ?_, h.1⟩, fun z hz => ?_⟩
     ·rcases List.mem_cons.mp hz with e | e
      ·rw [e]; exact a
      ·exact Int.lt_trans a (h1 z e)
     ·rcases List.mem_cons.mp hz with e | e
      ·rw [e]; exact b
      ·exact h.2 z e
   ·split
    ·rename_i a b
     split
     ·exact ⟨h2, fun z hz => h.2 z (.tail _ hz)⟩
     ·rename_i d
      refine ⟨List.pairwise_cons.mpr ⟨fun z hz => by rw [b]; exact h1 z hz, h2⟩, fun z hz => ?_⟩
      rcases List.mem_cons.mp hz with e | e
      ·rw [e]; exact d
      ·exact h.2 z (.tail _ e)
    ·rename_i a b
     have ih := a7U k c (p := r) ⟨h2, fun z hz => h.2 z (.tail _ hz)⟩
     refine ⟨List.pairwise_cons.mpr ⟨fun z hz => b1h (by lia) h1 z hz, ih.1⟩, fun z hz => ?_⟩
     rcases List.mem_cons.mp hz with e | e
     ·rw [e]; exact h.2 y (.head _)
     ·exact ih.2 z e
theorem b2G (k c : Int) : ∀ p : Po, N1 (putP k c p) ≤ c.natAbs + N1 p
 | [] => by
   show N1 (if c = 0 then [] else [(k, c)]) ≤ c.natAbs + 0
   split
   ·exact Nat.zero_le _
   ·exact Nat.le_refl _
 | x :: r => by
   have ih := b2G k c r
   show N1 (if k < x.1 then (if c = 0 then x :: r else (k, c) :: x :: r) else if k = x.1 then (if x.2 + c = 0 then r else (k, x.2 + c) :: r) else x :: putP k c r) ≤ c.natAbs + (x.2.natAbs + N1 r)
   split
   ·split
    ·show x.2.natAbs + N1 r ≤ _; lia
    ·exact Nat.le_refl _
   ·split
    ·split
     ·lia
     ·show (x.2 + c).natAbs + N1 r ≤ _; lia
    ·show x.2.natAbs + N1 (putP k c r) ≤ _; lia
theorem a2c : ∀ (p : Po) (k : Int), co (norm p) k = co p k
 | [], _ => rfl
 | x :: r, k => by
   show co (putP x.1 x.2 (norm r)) k = (if x.1 = k then x.2 else 0) + co r k
   rw [b2n, a2c r]
theorem a1G : ∀ p : Po, CanP (norm p)
 | [] => ⟨.nil, fun _ h => absurd h List.not_mem_nil⟩
 | x :: r => a7U x.1 x.2 (a1G r)
theorem b2H : ∀ p : Po, N1 (norm p) ≤ N1 p
 | [] => Nat.le_refl _
 | x :: r => Nat.le_trans (b2G x.1 x.2 (norm r)) (Nat.add_le_add_left (b2H r) _)
theorem b2I (p q : Po) : N1 (p ++ q) = N1 p + N1 q := by
 induction p with
 | nil => show N1 q = 0 + N1 q; lia
 | cons x r ih => show x.2.natAbs + N1 (r ++ q) = x.2.natAbs + N1 r + N1 q; lia
theorem a9i {k c : Int} : ∀ {p : Po}, ∀ x ∈ putP k c p, x.1 = k ∨ ∃ y ∈ p, y.1 = x.1
 | [], x, hx => by
   have hx : x ∈ (if c = 0 then [] else [(k, c)]) := hx
   split at hx
   ·cases hx
   ·rw [List.mem_singleton.mp hx]; exact .inl rfl
 | y :: r, x, hx => by
   have hx : x ∈ (if k < y.1 then (if c = 0 then y :: r else (k, c) :: y :: r) else if k = y.1 then (if y.2 + c = 0 then r else (k, y.2 + c) :: r) else y :: putP k c r) := hx
   split at hx
   ·split at hx
    ·exact .inr ⟨x, hx, rfl⟩
    ·rcases List.mem_cons.mp hx with e | e
     ·rw [e]; exact .inl rfl
     ·exact .inr ⟨x, e, rfl⟩
   ·split at hx
    ·split at hx
     ·exact .inr ⟨x, .tail _ hx, rfl⟩
     ·rcases List.mem_cons.mp hx with e | e
      ·rw [e]; exact .inl rfl
      ·exact .inr ⟨x, .tail _ e, rfl⟩
    ·rcases List.mem_cons.mp hx with e | e
     ·rw [e]; exact .inr ⟨y, .head _, rfl⟩
     ·rcases a9i x e with z | ⟨z, hz, ez⟩
      ·exact .inl z
      ·exact .inr ⟨z, .tail _ hz, ez⟩
theorem a9r : ∀ {p : Po}, ∀ x ∈ norm p, ∃ y ∈ p, y.1 = x.1
 | [], x, hx => by cases hx
 | y :: r, x, hx => by
   rcases a9i (k := y.1) (c := y.2) (p := norm r) x hx with z | ⟨z, hz, ez⟩
   ·exact ⟨y, .head _, z.symm⟩
   ·obtain ⟨u, hu, eu⟩ := a9r z hz
    exact ⟨u, .tail _ hu, eu.trans ez⟩
noncomputable def addP (p q : Po) : Po := norm (p ++ q)
noncomputable def rawM (p q : Po) : Po := p.flatMap fun a => q.map fun b => (a.1 + b.1, a.2 * b.2)
noncomputable def a1l (p q : Po) : Po := norm (rawM p q)
theorem b4q (a : Int × Int) : ∀ q : Po, N1 (q.map fun b => (a.1 + b.1, a.2 * b.2)) = a.2.natAbs * N1 q
 | [] => rfl
 | b :: q => by
   show (a.2 * b.2).natAbs + N1 (q.map fun b => (a.1 + b.1, a.2 * b.2)) = a.2.natAbs * (b.2.natAbs + N1 q)
   rw [b4q a q, Int.natAbs_mul, Nat.mul_add]
theorem b4r (q : Po) : ∀ p : Po, N1 (rawM p q) = N1 p * N1 q
 | [] => (Nat.zero_mul _).symm
 | a :: p => by
   show N1 ((q.map fun b => (a.1 + b.1, a.2 * b.2)) ++ rawM p q) = (a.2.natAbs + N1 p) * N1 q
   rw [b2I, b4q, b4r q p, Nat.add_mul]
theorem b5W (p q : Po) : N1 (a1l p q) ≤ N1 p * N1 q := Nat.le_trans (b2H _) (Nat.le_of_eq (b4r q p))
theorem b7V {p : Po} {x : Int × Int} (h : x ∈ p) : x.2.natAbs ≤ N1 p := by
 induction p with
 | nil => cases h
 | cons y r ih =>
   show _ ≤ y.2.natAbs + N1 r
   rcases List.mem_cons.mp h with e | e
   ·rw [e]; lia
   ·have := ih e; lia
noncomputable def prT (x : Int × Int) : T := .tup [.int x.1, .int x.2]
noncomputable def poT (p : Po) : T := .tup (p.map prT)
noncomputable def dkI (m : Po) : List (Key × T) := m.map fun x => (.inl x.1, .int x.2)
theorem b3H (m : Po) : (dkI m).map b5i = m.map prT := by unfold dkI; rw [List.map_map]; rfl
theorem a4P (m : Po) : (dkI m).map Prod.fst = (m.map Prod.fst).map Sum.inl := by unfold dkI; rw [List.map_map, List.map_map]; rfl
theorem a4C (m : Po) : (dkI m).length = m.length := by unfold dkI; rw [List.length_map]
noncomputable def setP (k v : Int) : Po → Po
 | [] => [(k, v)]
 | x :: r => if x.1 = k then (k, v) :: r else x :: setP k v r
theorem a4n (k v : Int) : ∀ m : Po, (setP k v m).map Prod.fst = if k ∈ m.map Prod.fst then m.map Prod.fst else m.map Prod.fst ++ [k]
 | [] => rfl
 | x :: r => by
   show ((if x.1 = k then (k, v) :: r else x :: setP k v r).map Prod.fst) = _
   by_cases h : x.1 = k
   ·rw [if_pos h, if_pos (by rw [List.map_cons, h]; exact .head _), List.map_cons, List.map_cons, h]
   ·rw [if_neg h, List.map_cons, a4n k v r, List.map_cons]
    by_cases g : k ∈ r.map Prod.fst
    ·rw [if_pos g, if_pos (.tail _ g)]
    ·rw [if_neg g, if_neg (fun z => (List.mem_cons.mp z).elim (fun e => h e.symm) g)]; rfl
theorem a3L {k v : Int} {m : Po} (h : (m.map Prod.fst).Nodup) : ((setP k v m).map Prod.fst).Nodup := by
 rw [a4n]
 split
 ·exact h
 ·rename_i g
  rw [List.nodup_append]
  exact ⟨h, List.pairwise_singleton _ _, fun a ha b hb => by rw [List.mem_singleton.mp hb]; exact fun z => g (z ▸ ha)⟩
theorem a4N {k v : Int} : ∀ {m : Po}, (m.map Prod.fst).Nodup → putT (dkI m) (.inl k) (.int v) = dkI (setP k v m)
 | [], _ => rfl
 | x :: r, h => by
   rw [List.map_cons, List.nodup_cons] at h
   have ih := a4N (k := k) (v := v) h.2
   show putT ((.inl x.1, .int x.2) :: dkI r) (.inl k) (.int v) = dkI (if x.1 = k then (k, v) :: r else x :: setP k v r)
   by_cases e : x.1 = k
   ·rw [if_pos e]
    unfold putT
    rw [if_pos (by rw [List.any_cons, decide_eq_true (show (Sum.inl x.1 : Key) = .inl k by rw [e])]; rfl)]
    rw [List.map_cons, if_pos (show (Sum.inl x.1 : Key) = .inl k by rw [e])]
    show _ = (Sum.inl k, T.int v) :: dkI r
    rw [e]
    congr 1
    unfold dkI
    rw [List.map_map]
    refine List.map_congr_left fun y hy => ?_
    show (if (Sum.inl y.1 : Key) = .inl k then ((Sum.inl y.1 : Key), T.int v) else (Sum.inl y.1, T.int y.2)) = _
    rw [if_neg (fun z => h.1 (by rw [e, ← Sum.inl.inj z]; exact List.mem_map.mpr ⟨y, hy, rfl⟩))]
   ·have ne : ¬ (Sum.inl x.1 : Key) = .inl k := fun z => e (Sum.inl.inj z)
    rw [if_neg e]
    show _ = (Sum.inl x.1, T.int x.2) :: dkI (setP k v r)
    rw [← ih]
    unfold putT
    rw [List.any_cons, decide_eq_false ne, Bool.false_or]
    split
    ·rw [List.map_cons, if_neg ne]
    ·rfl
theorem a4L (k : Int) : ∀ {m : Po}, (m.map Prod.fst).Nodup → (valT (dkI m) (.inl k)).getD (.int 0) = .int (co m k)
 | [], _ => rfl
 | x :: r, h => by
   rw [List.map_cons, List.nodup_cons] at h
   show (valT ((.inl x.1, .int x.2) :: dkI r) (.inl k)).getD (.int 0) = .int ((if x.1 = k then x.2 else 0) + co r k)
   rw [a6S]
   by_cases e : x.1 = k
   ·rw [if_pos (show (Sum.inl x.1 : Key) = .inl k by rw [e]), if_pos e, a3r (fun y hy z => h.1 (by rw [e, ← z]; exact List.mem_map.mpr ⟨y, hy, rfl⟩)), Int.add_zero]; rfl
   ·rw [if_neg (fun z => e (Sum.inl.inj z)), if_neg e, Int.zero_add]
    exact a4L k h.2
theorem a1s {k : Int} : ∀ {m : Po}, (m.map Prod.fst).Nodup → k ∈ m.map Prod.fst → valT (dkI m) (.inl k) = some (.int (co m k))
 | [], _, z => by cases z
 | x :: r, h, z => by
   rw [List.map_cons, List.nodup_cons] at h
   show valT ((.inl x.1, .int x.2) :: dkI r) (.inl k) = some (.int ((if x.1 = k then x.2 else 0) + co r k))
   rw [a6S]
   by_cases e : x.1 = k
   ·rw [if_pos (show (Sum.inl x.1 : Key) = .inl k by rw [e]), if_pos e, a3r (fun y hy z => h.1 (by rw [e, ← z]; exact List.mem_map.mpr ⟨y, hy, rfl⟩)), Int.add_zero]
   ·rw [if_neg (fun z => e (Sum.inl.inj z)), if_neg e, Int.zero_add]
    rw [List.map_cons] at z
    exact a1s h.2 ((List.mem_cons.mp z).resolve_left fun y => e y.symm)
theorem a5q (k v : Int) : ∀ {m : Po}, (m.map Prod.fst).Nodup → ∀ j, co (setP k v m) j = if j = k then v else co m j
 | [], _, j => by
   show (if k = j then v else 0) + 0 = if j = k then v else 0
   by_cases e : j = k
   ·rw [if_pos e, if_pos e.symm]; lia
   ·rw [if_neg e, if_neg (fun z => e z.symm)]; rfl
 | x :: r, h, j => by
   rw [List.map_cons, List.nodup_cons] at h
   show co (if x.1 = k then (k, v) :: r else x :: setP k v r) j = if j = k then v else (if x.1 = j then x.2 else 0) + co r j
   by_cases e : x.1 = k
   ·rw [if_pos e]
    show (if k = j then v else 0) + co r j = _
    by_cases f : j = k
    ·rw [if_pos f, if_pos f.symm, a3r (fun y hy z => h.1 (by rw [e, ← f, ← z]; exact List.mem_map.mpr ⟨y, hy, rfl⟩))]; lia
    ·rw [if_neg f, if_neg (fun z => f z.symm), if_neg (fun z => f (z.symm.trans e))]
   ·rw [if_neg e]
    show (if x.1 = j then x.2 else 0) + co (setP k v r) j = _
    rw [a5q k v h.2 j]
    by_cases f : j = k
    ·rw [if_pos f, if_pos f, if_neg (fun z => e (z.trans f))]; lia
    ·rw [if_neg f, if_neg f]
theorem a5f {m : Po} {ms : List Int} (hm : (m.map Prod.fst).Nodup) (hp : ms.Perm (m.map Prod.fst)) (hs : ms.Pairwise (· ≤ ·)) : ((ms.filter fun k => decide (co m k ≠ 0)).map fun k => (k, co m k)) = norm m := by
 have hnd : ms.Nodup := hp.nodup_iff.mpr hm
 have hst : ms.Pairwise (· < ·) := hs.imp₂ (fun a b h1 h2 => Int.lt_iff_le_and_ne.mpr ⟨h1, h2⟩) hnd
 have hc : CanP ((ms.filter fun k => decide (co m k ≠ 0)).map fun k => (k, co m k)) := by
  refine ⟨List.pairwise_map.mpr (hst.filter _), fun x hx => ?_⟩
  obtain ⟨k, hk, rfl⟩ := List.mem_map.mp hx
  exact of_decide_eq_true (List.mem_filter.mp hk).2
 refine a3O hc (a1G m) fun k => ?_
 rw [a2c]
 by_cases h : k ∈ ms ∧ co m k ≠ 0
 ·exact a7R hc.1 (x := (k, co m k)) (List.mem_map.mpr ⟨k, List.mem_filter.mpr ⟨h.1, decide_eq_true h.2⟩, rfl⟩)
 ·rw [a3r]
  ·by_cases g : k ∈ ms
   ·exact (Classical.not_not.mp fun z => h ⟨g, z⟩).symm
   ·exact (a3r fun x hx z => g (hp.mem_iff.mpr (List.mem_map.mpr ⟨x, hx, z⟩))).symm
  ·intro x hx z
   obtain ⟨j, hj, rfl⟩ := List.mem_map.mp hx
   obtain rfl : j = k := z
   exact h ⟨(List.mem_filter.mp hj).1, of_decide_eq_true (List.mem_filter.mp hj).2⟩
theorem a2V {K : PySem.W.Frag} {H : Hp} : Reps K H [] [] := by unfold Reps; rfl
theorem a1k {K : PySem.W.Frag} {H : Hp} {v : V} {t : T} {vs : List V} {ts : List T} (a : Rep K H v t) (b : Reps K H vs ts) : Reps K H (v :: vs) (t :: ts) := by unfold Reps; exact ⟨v, vs, rfl, a, b⟩
theorem a2W {K : PySem.W.Frag} {H : Hp} {u : Addr} {xs : List V} {its : Array Value} {n : Nat} {sl : Array (Option Value)} {ts : List T} (l : K.lookup u = some ⟨.type "tuple", none, .seq its n, sl⟩) (hz : its.size ≤ 1000) (v : Vals xs its.toList) (r : Reps K H xs ts) : Rep K H (.ref u) (.tup ts) :=
 a1O (.inr ⟨_, its, n, l, rfl, rfl, rfl, by rw [sizeLine_eq]; lia, v⟩) r
section
variable {X : Cx}
theorem a3B {x : Str} {a : Addr} {t : T} {pos : Pos} (c : X.mg x = some (.ref a) ∧ ∀ H, Rep X.K H (.ref a) t) (hg : Gl X x := by rfl) (hd : (x == ("__debug__" : Str)) = false := by decide) : HE X (.Name x pos) (tK t) := fun ρ M Q q => (b1n (v := .ref a) hg c.1 rfl hd).imp fun σ H Q2 ⟨hr, hh, en⟩ => en t _ M H Kp.refl hh (c.2 H) q
end
section
variable {X : Cx} {a b e : Expr} {pos : Pos}
end
section
variable {X : Cx} {Ha : Hp} {e : Expr} {te : TE3} {pos : Pos}
end
noncomputable def Wk (M1 M2 : MH) : Prop := ∀ K H, HR K H M1 → HR K H M2
noncomputable def tWk (t : TE3) : TE3 := fun ρ M Q => t ρ M fun x M1 => ∃ M2, Wk M1 M2 ∧ Q x M2
theorem b4s {M : MH} {p : Addr} {kvs : List (Key × T)} (h : M p = some (.dk kvs)) : Wk M (updM M p (.fk kvs)) := fun K H hh a o e => by
 by_cases c : a = p
 ·subst c
  rw [a0d] at e; cases e
  obtain ⟨xs, g1, g2⟩ := hh _ _ h
  exact ⟨xs, .inl g1, g2⟩
 ·rw [a0o c] at e
  exact hh a o e
section
variable {X : Cx}
theorem h_wk {e : Expr} {t : TE3} (h : HE X e t) : HE X e (tWk t) := fun ρ M Q q => (h ρ M _ q).imp fun σ H Q2 ⟨hr, hh, en⟩ => ⟨hr, hh, fun x v M1 H1 k1 h1 r1 ⟨M2, w, q1⟩ => en x v M2 H1 k1 (w _ _ h1) r1 q1⟩
noncomputable def tDGF (td tk : TE3) : TE3 := fun ρ M Q => td ρ M fun x M1 => tk ρ M1 fun k M2 => match x with
 | .adr p => (match M2 p with
   | some (.fk kvs) => ∃ kk t, k = keyT kk ∧ valT kvs kk = some t ∧ Q t M2
   | _ => False)
 | _ => False
theorem b3B {o i : Expr} {td tk : TE3} {pos : Pos} (hu : X.A.units + 64 < cLine) (ho : HE X o td) (hi : HE X i tk) (hs : NoSl i := by intro _ _; rfl) : HE X (.Subscript o i pos) (tDGF td tk) := fun ρ M Q h =>
 (b1o (by lia) (ho.d (ρ := ρ)) (hi.d (ρ := ρ)) hs).imp fun σ H Q2 ⟨hr, hh, en⟩ => ⟨M, _, h, hr, hh, fun x v M1 H1 k1 h1 r1 q1 => ⟨M1, _, q1, hr.kp k1, h1, fun y v2 M2 H2 k2 h2 r2 q2 => by
  cases x with
  | adr p =>
    cases r1
    dsimp only at q2
    split at q2
    ·rename_i kvs e
     obtain ⟨kk, t, rfl, ev, q2⟩ := q2
     obtain rfl := a3y r2
     obtain ⟨xs, g1, g2⟩ := h2 _ _ e
     have hv := g2.val kk
     rw [ev] at hv
     obtain ⟨u, e1, e2⟩ := hv
     exact ⟨_, u, rfl, .inl ⟨xs, kk, g1, rfl, e1.symm⟩, en _ _ M2 H2 (k1.trans k2) h2 e2 q2⟩
    ·exact q2.elim
  | _ => exact q2.elim⟩⟩
theorem b7I {pins : List (Addr × Obj)} {σ : St} {H : Hp} {s : Shared} (I : Inv X pins σ H s) {p : Addr} {xs : List (Key × V)} (h : Rd H p (.dK xs)) : xs.length ≤ sizeLine ∧ (p == sysModules) = false ∧ ∃ vs, KV xs vs ∧ s.heap.DictOf (a0F X.prog X.w) p vs := by
 rcases h with h | ⟨o, h⟩
 ·exact (show a0Q X.prog X.w H s.heap p (.dK xs) from I.hok p _ h)
 ·exact (show s.heap.get? p = some o ∧ a0Q X.prog X.w H s.heap p (.dK xs) from I.hok p _ h).2
noncomputable def a6o : List T → MH → VK3 → Prop := fun xs M Q => match xs with
 | [.adr p] => (match M p with | some (.fk kvs) => ∃ ns : List Int, kvs.map Prod.fst = ns.map Sum.inl ∧ ns.length < 64 ∧ ∀ ms : List Int, ms.Perm ns → ms.Pairwise (· ≤ ·) → ∀ r, M r = none → Q (.adr r) (updM M r (.lst (ms.map .int))) | _ => False)
 | _ => False
theorem a6O (hc : X.calm = true) : a2R X (.builtin "sorted") a6o := by
 intro pins s σ H vs us Q2 I r h
 obtain ⟨xs, M, Q, rr, hh, q, en⟩ := h
 unfold a6o at q
 split at q
 ·obtain ⟨v, rfl, r1⟩ := a2a rr
  obtain rfl := a0A r1
  obtain ⟨u, rfl, rx⟩ := a4h r
  cases rx
  split at q
  ·rename_i kvs e0
   obtain ⟨ns, hk, h64, q⟩ := q
   obtain ⟨kv, g1, g2⟩ := hh _ _ e0
   obtain ⟨kz, lo, vs, r1, dd⟩ := b7I I g1
   obtain ⟨ep, da⟩ := dd.dictAt
   have e1 : vs.map (·.1) = ns.map Sum.inl := by
    rw [← r1.keys]
    exact (a4u g2).trans hk
   refine a4V (I.ok.hd hc) da lo e1 h64 fun h1 h' tk out ns' hkp hkp2 ⟨e, hg⟩ a1 a2 a3 => ?_
   have I1 : Inv X pins σ H { s with heap := h1, toks := s.toks } := I.kept hkp
   have hfr : H h1.objs.size = none := I1.hok.fresh (Nat.le_refl _)
   have hn : ns'.length ≤ sizeLine := by rw [a2.length_eq, sizeLine_eq]; lia
   exact ⟨.ref h1.objs.size, _, I1.laid (t' := tk) hkp2 (Nat.le_refl _) (show a0Q X.prog X.w _ h' _ (.lst (ns'.map V.int)) from ⟨by rw [List.length_map]; exact hn, out.toList, e, a4g a1, by rw [Array.toArray_toList]; exact hg⟩), rfl, en _ _ _ _ (Kp.new hfr) (hh.newL hfr (a5k ns')) a1r (q ns' a2 a3 _ (hh.free hfr))⟩
  ·exact q.elim
 ·exact q.elim
end
noncomputable def ItkK (d : Addr) (o : Obj) : It :=
 ⟨fun i H => ∃ kvs kv, H d = some (.frz o (.dK kvs)) ∧ kvs[i]? = some kv, fun i H x H' => H' = H ∧ ∀ kvs kv, H d = some (.frz o (.dK kvs)) → kvs[i]? = some kv → x = kV kv.1, fun i H => ∃ kvs, H d = some (.frz o (.dK kvs)) ∧ kvs.length ≤ i⟩
theorem b3s {k : Key} {key : Value} (h : a5D k key = true) : RelV (kV k) key := by
 rcases a0I h with ⟨i, t, rfl, rfl⟩ | ⟨x, t, rfl, rfl⟩
 ·exact ⟨t, rfl⟩
 ·exact ⟨t, rfl⟩
theorem a3z {P : Program} {w : World} {H : Hp} {h : Heap} {d : Addr} {o : Obj} {kvs : List (Key × V)} (ok : HOk P w H h) (e : H d = some (.frz o (.dK kvs))) :
  h.get? d = some o ∧ o.ExactDict ∧ ∃ es ep, o.data = .dict es ep ∧ es.size = kvs.length ∧ ∀ (i : Nat) kv, kvs[i]? = some kv → ∃ en, es[i]? = some en ∧ RelV (kV kv.1) en.key := by
 obtain ⟨g, z, y, vs, r, o', es, ep, h1, h2, h3, h4, h5, h6⟩ := (show h.get? d = some o ∧ a0Q P w H h d (.dK kvs) from ok d _ e)
 rw [g] at h1
 obtain rfl := Option.some.inj h1
 have hl : es.size = kvs.length := by rw [← Array.length_toList, h5.length, r.length]
 refine ⟨g, h2, es, ep, h3, hl, fun i kv hi => ?_⟩
 have hlt : i < es.size := by rw [hl]; exact (List.getElem?_eq_some_iff.mp hi).1
 obtain ⟨⟨k, x⟩, e1, e2, e3⟩ := a5c r hi
 have hk := (h5.get? (e := es[i]) (by rw [Array.getElem?_toList, Array.getElem?_eq_getElem hlt]) e1).1
 refine ⟨es[i], Array.getElem?_eq_getElem hlt, ?_⟩
 rw [a5P] at hk
 rw [e2]
 exact b3s hk
theorem a9W {P : Program} {w : World} {K : PySem.W.Frag} {tg : Expr} (d : Addr) (o : Obj) (it : Addr) : Turn P w K tg (ItkK d o) [it] it (fun i h => ∃ es ep, o.data = .dict es ep ∧ h.IsKeyIter it d i es.size ep) where
 mem := by simp
 obj := fun i h st b hb => by
  have e : b = it := by simpa using hb
  subst e
  obtain ⟨_, _, _, o', e, c, d⟩ := st
  exact ⟨o', e, fun v z => by rw [d] at z; cases z⟩
 keep := fun i h h' st k => let ⟨es, ep, a, st⟩ := st; ⟨es, ep, a, st.at fun o e => k it (by simp) o e⟩
 item := by
  intro X hP hw hK hc i pins s σ H E I hf st hg
  subst hP hw hK
  obtain ⟨kvs, kv, hq, hx⟩ := hg
  obtain ⟨es, ep, hdat, st⟩ := st
  obtain ⟨g, _, es', ep', hdat', hsz, hat⟩ := a3z I.hok hq
  rw [hdat] at hdat'
  obtain ⟨rfl, rfl⟩ : es = es' ∧ ep = ep' := by injection hdat' with a b; exact ⟨a, b⟩
  obtain ⟨en, h1, h2⟩ := hat i kv hx
  obtain ⟨f0, f1, f2, f3, f4, f5⟩ := hf it (by simp)
  refine a8E st g hdat h1 fun h' st' sb => ?_
  have I1 : Inv X pins σ H { s with heap := h' } := I.turned (t' := s.toks) (fun b o hb e => (sb.2 b hb).trans e) f0 f1 f3 f4 f5
  obtain ⟨oi, e, c, dd⟩ := id st'
  refine ⟨en.key, rfl, b3C (s := { s with heap := h' }) e c dd (by decide) ⟨kV kv.1, H, I1, h2, ⟨rfl, fun kvs2 kv2 q2 x2 => ?_⟩, ⟨es, ep, hdat, st'⟩, fun b hb => (hf b hb).1⟩⟩
  rw [hq] at q2
  cases q2
  rw [hx] at x2
  cases x2
  rfl
 done := by
  intro X hP hw hK hc i pins s σ H E I hf st hg
  subst hP hw hK
  obtain ⟨kvs, hq, hx⟩ := hg
  obtain ⟨es, ep, hdat, st⟩ := st
  obtain ⟨g, _, es', ep', hdat', hsz, hat⟩ := a3z I.hok hq
  rw [hdat] at hdat'
  obtain ⟨rfl, rfl⟩ : es = es' ∧ ep = ep' := by injection hdat' with a b; exact ⟨a, b⟩
  obtain ⟨f0, f1, f2, f3, f4, f5⟩ := hf it (by simp)
  exact a8D (I.ok.hd hc) st g hdat (Array.getElem?_eq_none (by lia)) fun h' eb => ⟨rfl, I.turned (t' := s.toks) (fun b o hb e => eb b o hb e) f0 f1 f3 f4 f5⟩
 self := fun _ _ _ _ _ st h => let ⟨_, _, _, st⟩ := st; wpAny_pyIter_keyiter st h
noncomputable def a5C (kvs : List (Key × T)) : List T := kvs.map fun kv => keyT kv.1
theorem a2O (kvs : List (Key × T)) : (a5C kvs).length = kvs.length := List.length_map ..
theorem b2S {K : PySem.W.Frag} {H : Hp} (k : Key) : Rep K H (kV k) (keyT k) := by
 cases k with
 | inl i => exact a0x
 | inr x => exact a8p
theorem b0q {K : PySem.W.Frag} {H : Hp} {d : Addr} {o : Obj} {xs : List (Key × V)} {kvs : List (Key × T)} (g : H d = some (.frz o (.dK xs))) (r : KRep K H xs kvs) : ItOk K H (ItkK d o) ⟨a5C kvs, fun _ => True⟩ := by
 refine ⟨fun H' M' k hh _ => ⟨xs, k.frz _ _ _ g, ?_⟩, fun i x H' M' e k hh _ => ?_⟩
 ·show xs.length ≤ (a5C kvs).length
  rw [a2O, r.length]; exact Nat.le_refl _
 ·unfold a5C at e
  rw [List.getElem?_map] at e
  obtain ⟨kv, e1, rfl⟩ := Option.map_eq_some_iff.mp e
  obtain ⟨xv, e2, e3⟩ := b1L r e1
  refine ⟨⟨xs, xv, k.frz _ _ _ g, e2⟩, fun v H'' y => ?_⟩
  obtain ⟨rfl, y⟩ := y
  have := y xs xv (k.frz _ _ _ g) e2
  rw [e3] at this
  subst this
  exact ⟨Kp.refl, hh, b2S kv.1⟩
noncomputable def b7y (tl : TE3) : TI3 := fun ρ M R => tl ρ M fun x M1 => match x with
 | .adr p => (match M1 p with | some (.fk kvs) => R ⟨a5C kvs, fun _ => True⟩ M1 | _ => False)
 | _ => False
section
variable {X : Cx}
theorem a8J {tg l : Expr} {tl : TE3} (hl : HE X l tl) : HI X tg l (b7y tl) := by
 intro ρ M R h pins s σ H R2 I b
 obtain ⟨hr, hh, en⟩ := b
 refine thn (hl ρ M _ h pins s σ H (fun v H1 => ∃ t M1, Kp X.K H H1 ∧ HR X.K H1 M1 ∧ Rep X.K H1 v t ∧ (match t with
  | .adr p => (match M1 p with | some (.fk kvs) => R ⟨a5C kvs, fun _ => True⟩ M1 | _ => False)
  | _ => False)) I ⟨hr, hh, fun t v M1 H1 k1 h1 r1 q1 => ⟨t, M1, k1, h1, r1, q1⟩⟩) fun v s1 ⟨x, H1, I1, rv, t, M1, k1, h1, r1, q1⟩ => ?_
 split at q1
 ·rename_i a
  obtain rfl := a0A r1
  cases rv
  split at q1
  ·rename_i kvs e0
   obtain ⟨xs, g1, g2⟩ := h1 _ _ e0
   obtain ⟨kz, lo, vs, kv, o, es, ep, ho, hx, hdat, hrest⟩ := b7I I1 g1
   have I2 : ∃ H2 o2, Inv X pins σ H2 s1 ∧ s1.heap.get? a = some o2 ∧ o2.ExactDict ∧ (∃ es ep, o2.data = .dict es ep) ∧ Kp X.K H1 H2 ∧ HR X.K H2 M1 ∧ H2 a = some (.frz o2 (.dK xs)) ∧ KRep X.K H2 xs kvs := by
    rcases g1 with g1 | ⟨o2, g1⟩
    ·have kd := Kp.dict (K := X.K) (u := .frz o (.dK xs)) g1 (.inl ⟨_, rfl⟩)
     refine ⟨upd H1 a (.frz o (.dK xs)), o, I1.write (t' := s1.toks) (by rw [g1]; trivial) (.inl rfl) (fun b u _ e => e) ⟨o, ho⟩ ⟨ho, kz, lo, vs, kv, o, es, ep, ho, hx, hdat, hrest⟩, ho, hx, ⟨es, ep, hdat⟩, kd, fun c u ec => ?_, a0u, g2.kp kd⟩
     by_cases hc : c = a
     ·subst hc
      rw [e0] at ec; cases ec
      exact ⟨xs, .inr ⟨o, a0u⟩, g2.kp kd⟩
     ·exact (h1 c u ec).kp kd fun u _ q => by rw [a0n hc]; exact q
    ·obtain ⟨q1, q2, es', ep', q3, _⟩ := a3z I1.hok g1
     exact ⟨H1, o2, I1, q1, q2, ⟨es', ep', q3⟩, Kp.refl, h1, g1, g2⟩
   obtain ⟨H2, o2, I2, ho2, hx2, ⟨es2, ep2, hdat2⟩, kd, hh2, hfz, gr⟩ := I2
   refine a7v lo ho2 hx2 hdat2 fun s2 it hit ht hgn hs2 => ?_
   subst hs2 hit
   refine ⟨s1.heap.objs.size, [s1.heap.objs.size], _, _, _, rfl, I2.kept (t' := s1.toks) fun b o e => Heap.get?_push_of_some _ e, a9W a o2 _, ⟨es2, ep2, hdat2, _, Heap.get?_push_size _ rfl, rfl, rfl⟩, fun b hb => ?_, en ⟨a5C kvs, fun _ => True⟩ _ M1 _ (k1.trans kd) hh2 (b0q hfz gr) q1⟩
   have e : b = s1.heap.objs.size := by simpa using hb
   subst e
   exact I2.fpOk (Nat.le_refl _) (I2.hok.fresh (Nat.le_refl _))
  ·exact q1.elim
 ·exact q1.elim
end
section
variable {X : Cx}
end
section
variable {X : Cx}
end
noncomputable def cv : Po → (Int → Int) → Int → Int
 | [], _, _ => 0
 | x :: a, f, c => x.2 * f (c - x.1) + cv a f c
theorem a9O (x : Int × Int) (c : Int) : ∀ b : Po, co (b.map fun y => (x.1 + y.1, x.2 * y.2)) c = x.2 * co b (c - x.1)
 | [] => by show (0 : Int) = x.2 * 0; rw [Int.mul_zero]
 | y :: b => by
   show (if x.1 + y.1 = c then x.2 * y.2 else 0) + co (b.map fun y => (x.1 + y.1, x.2 * y.2)) c = x.2 * ((if y.1 = c - x.1 then y.2 else 0) + co b (c - x.1))
   rw [a9O x c b, Int.mul_add]
   by_cases h : x.1 + y.1 = c
   ·rw [if_pos h, if_pos (by lia)]
   ·rw [if_neg h, if_neg (by lia), Int.mul_zero]
theorem a9P (b : Po) (c : Int) : ∀ a : Po, co (rawM a b) c = cv a (co b) c
 | [] => rfl
 | x :: a => by
   show co ((b.map fun y => (x.1 + y.1, x.2 * y.2)) ++ rawM a b) c = x.2 * co b (c - x.1) + cv a (co b) c
   rw [a0X, a9O, a9P b c a]
theorem b4l (c : Int) : ∀ a : Po, cv a (co []) c = 0
 | [] => rfl
 | x :: a => by
   show x.2 * 0 + cv a (co []) c = 0
   rw [b4l c a]; lia
theorem b4k (c : Int) : ∀ a : Po, cv a (co [(0, 1)]) c = co a c
 | [] => rfl
 | x :: a => by
   show x.2 * ((if (0 : Int) = c - x.1 then 1 else 0) + 0) + cv a (co [(0, 1)]) c = (if x.1 = c then x.2 else 0) + co a c
   rw [b4k c a]
   by_cases h : x.1 = c
   ·rw [if_pos h, if_pos (by lia)]; lia
   ·rw [if_neg h, if_neg (by lia)]; lia
theorem b3N {M : MH} {p : Addr} {kvs : List (Key × T)} : Wk (updM M p (.dk kvs)) (updM M p (.fk kvs)) := by
 have h := b4s (M := updM M p (.dk kvs)) (p := p) (kvs := kvs) a0d
 have e : updM (updM M p (.dk kvs)) p (.fk kvs) = updM M p (.fk kvs) := by
  funext b; unfold updM; split <;> rfl
 rwa [e] at h
theorem a7O (f : Int → Int) (c : Int) : ∀ p q : Po, cv (p ++ q) f c = cv p f c + cv q f c
 | [], q => by show cv q f c = 0 + cv q f c; lia
 | x :: p, q => by
   show x.2 * f (c - x.1) + cv (p ++ q) f c = x.2 * f (c - x.1) + cv p f c + cv q f c
   rw [a7O f c p q]; lia
theorem b4m (f g : Int → Int) (c : Int) : ∀ p : Po, cv p (fun c => f c + g c) c = cv p f c + cv p g c
 | [] => rfl
 | x :: p => by
   show x.2 * (f (c - x.1) + g (c - x.1)) + cv p (fun c => f c + g c) c = (x.2 * f (c - x.1) + cv p f c) + (x.2 * g (c - x.1) + cv p g c)
   rw [b4m f g c p, Int.mul_add]; lia
theorem a9M (x : Int × Int) (f : Int → Int) (c : Int) : ∀ q : Po, cv (q.map fun y => (x.1 + y.1, x.2 * y.2)) f c = x.2 * cv q f (c - x.1)
 | [] => by show (0 : Int) = x.2 * 0; rw [Int.mul_zero]
 | y :: q => by
   show x.2 * y.2 * f (c - (x.1 + y.1)) + cv (q.map fun y => (x.1 + y.1, x.2 * y.2)) f c = x.2 * (y.2 * f (c - x.1 - y.1) + cv q f (c - x.1))
   rw [a9M x f c q, Int.mul_add, Int.mul_assoc, show c - (x.1 + y.1) = c - x.1 - y.1 by lia]
theorem b4j (q : Po) (f : Int → Int) (c : Int) : ∀ p : Po, cv (rawM p q) f c = cv p (cv q f) c
 | [] => rfl
 | x :: p => by
   show cv ((q.map fun y => (x.1 + y.1, x.2 * y.2)) ++ rawM p q) f c = x.2 * cv q f (c - x.1) + cv p (cv q f) c
   rw [a7O, a9M, b4j q f c p]
theorem b2m (k v : Int) (f : Int → Int) (c : Int) : ∀ p : Po, cv (putP k v p) f c = v * f (c - k) + cv p f c
 | [] => by
   show cv (if v = 0 then [] else [(k, v)]) f c = v * f (c - k) + 0
   split
   ·rename_i h; subst h; show (0 : Int) = _; rw [Int.zero_mul]; rfl
   ·rfl
 | x :: r => by
   have ih := b2m k v f c r
   show cv (if k < x.1 then (if v = 0 then x :: r else (k, v) :: x :: r) else if k = x.1 then (if x.2 + v = 0 then r else (k, x.2 + v) :: r) else x :: putP k v r) f c = _
   split
   ·split
    ·rename_i h; subst h; rw [Int.zero_mul, Int.zero_add]
    ·rfl
   ·split
    ·rename_i h; subst h
     split
     ·rename_i h
      show cv r f c = v * f (c - x.1) + (x.2 * f (c - x.1) + cv r f c)
      rw [← Int.add_assoc, ← Int.add_mul, show v + x.2 = 0 by lia, Int.zero_mul, Int.zero_add]
     ·show (x.2 + v) * f (c - x.1) + cv r f c = v * f (c - x.1) + (x.2 * f (c - x.1) + cv r f c)
      rw [Int.add_mul]; lia
    ·show x.2 * f (c - x.1) + cv (putP k v r) f c = v * f (c - k) + (x.2 * f (c - x.1) + cv r f c)
     rw [ih]; lia
theorem a8P (f : Int → Int) (c : Int) : ∀ p : Po, cv (norm p) f c = cv p f c
 | [] => rfl
 | x :: p => by
   show cv (putP x.1 x.2 (norm p)) f c = x.2 * f (c - x.1) + cv p f c
   rw [b2m, a8P f c p]
theorem a5r (x : Int × Int) (p : Po) (c : Int) : ∀ q : Po, co (rawM q (x :: p)) c = co (q.map fun y => (x.1 + y.1, x.2 * y.2)) c + co (rawM q p) c
 | [] => rfl
 | y :: q => by
   show co (((y.1 + x.1, y.2 * x.2) :: p.map fun b => (y.1 + b.1, y.2 * b.2)) ++ rawM q (x :: p)) c = ((if x.1 + y.1 = c then x.2 * y.2 else 0) + co (q.map fun y => (x.1 + y.1, x.2 * y.2)) c) + co ((p.map fun b => (y.1 + b.1, y.2 * b.2)) ++ rawM q p) c
   rw [a0X, a0X, a5r x p c q]
   show ((if y.1 + x.1 = c then y.2 * x.2 else 0) + _) + _ = _
   rw [Int.add_comm y.1, Int.mul_comm y.2]; lia
theorem a5s (c : Int) (q : Po) : ∀ p : Po, co (rawM p q) c = co (rawM q p) c
 | [] => by
   have : ∀ q : Po, rawM q [] = [] := fun q => by
    induction q with
    | nil => rfl
    | cons y q ih => show [] ++ rawM q [] = []; rw [ih]; rfl
   rw [this]; rfl
 | x :: p => by
   show co ((q.map fun y => (x.1 + y.1, x.2 * y.2)) ++ rawM p q) c = _
   rw [a0X, a5r, a5s c q p]
theorem b2q (p q : Po) (c : Int) : co (addP p q) c = co p c + co q c := by unfold addP; rw [a2c, a0X]
theorem a8Q (p q : Po) (c : Int) : co (a1l p q) c = cv p (co q) c := by unfold a1l; rw [a2c, a9P]
noncomputable abbrev Lp := {p : Po // CanP p}
noncomputable def toL (p : Po) : Lp := ⟨norm p, a1G p⟩
theorem b0F {p q : Po} (h : ∀ c, co p c = co q c) : toL p = toL q := Subtype.ext (a3O (a1G p) (a1G q) fun c => (a2c p c).trans ((h c).trans (a2c q c).symm))
noncomputable instance : Add Lp := ⟨fun p q => toL (addP p.1 q.1)⟩
noncomputable instance : Mul Lp := ⟨fun p q => toL (a1l p.1 q.1)⟩
noncomputable def zL : Lp := toL []
noncomputable def eL : Lp := toL [(0, 1)]
theorem Lp.ext2 {p q : Lp} (h : ∀ c, co p.1 c = co q.1 c) : p = q := Subtype.ext (a3O p.2 q.2 h)
theorem co_L (p : Po) (c : Int) : co (toL p).1 c = co p c := a2c p c
theorem a2d (p q : Lp) (c : Int) : co (p + q).1 c = co p.1 c + co q.1 c := (co_L _ c).trans (b2q _ _ c)
theorem a2E (p q : Lp) (c : Int) : co (p * q).1 c = cv p.1 (co q.1) c := (co_L _ c).trans (a8Q _ _ c)
theorem cv_L (p : Po) (f : Int → Int) (c : Int) : cv (toL p).1 f c = cv p f c := a8P f c p
theorem a6h (p q : Po) : toL (addP p q) = toL p + toL q := Lp.ext2 fun c => by rw [a2d, co_L, b2q, co_L, co_L]
theorem a2x (p q : Po) : toL (a1l p q) = toL p * toL q := Lp.ext2 fun c => by
 rw [a2E, co_L, a8Q, cv_L]
 have e : co (toL q).1 = co q := funext fun c => co_L q c
 rw [e]
theorem a8d (p q : Lp) : p + q = q + p := Lp.ext2 fun c => by rw [a2d, a2d]; lia
theorem a6c (p q r : Lp) : p + q + r = p + (q + r) := Lp.ext2 fun c => by rw [a2d, a2d, a2d, a2d]; lia
theorem b7S (p : Lp) : p + zL = p := Lp.ext2 fun c => by
 rw [a2d]; show co p.1 c + co (norm []) c = co p.1 c
 rw [a2c]; show _ + 0 = _; lia
theorem a1o (p q : Lp) : p * q = q * p := Lp.ext2 fun c => by rw [a2E, a2E, ← a9P, ← a9P, a5s]
theorem a4A (p q r : Lp) : p * q * r = p * (q * r) := Lp.ext2 fun c => by
 rw [a2E, a2E]
 have e : co (q * r).1 = cv q.1 (co r.1) := funext fun c => a2E q r c
 rw [e, ← b4j]
 show cv (toL (a1l p.1 q.1)).1 (co r.1) c = _
 rw [cv_L]; unfold a1l; rw [a8P]
theorem b1C (p : Lp) : p * eL = p := Lp.ext2 fun c => by
 rw [a2E]
 have e : co eL.1 = co [(0, 1)] := funext fun c => co_L _ c
 rw [e, b4k]
theorem b1B (p : Lp) : p * zL = zL := Lp.ext2 fun c => by
 rw [a2E]
 have e : co zL.1 = co [] := funext fun c => co_L _ c
 rw [e, b4l]; rfl
theorem b5J (p q r : Lp) : p * (q + r) = p * q + p * r := Lp.ext2 fun c => by
 rw [a2E, a2d, a2E, a2E, ← b4m]
 have e : co (q + r).1 = fun c => co q.1 c + co r.1 c := funext fun c => a2d q r c
 rw [e]
instance : Std.Associative (α := Lp) (· * ·) := ⟨a4A⟩
instance : Std.Commutative (α := Lp) (· * ·) := ⟨a1o⟩
instance : Std.Associative (α := Lp) (· + ·) := ⟨a6c⟩
instance : Std.Commutative (α := Lp) (· + ·) := ⟨a8d⟩
noncomputable def sgU (s : Int) : Lp := toL [(0, s)]
theorem a7Q (s c : Int) : co [(0, s)] c = if 0 = c then s else 0 := by
 show (if (0 : Int) = c then s else 0) + 0 = _
 rw [Int.add_zero]
theorem b0P (a b : Int) : sgU a * sgU b = sgU (a * b) := by
 unfold sgU
 rw [← a2x]
 refine b0F fun c => ?_
 rw [a8Q, a7Q]
 show a * co [(0, b)] (c - 0) + 0 = _
 rw [Int.sub_zero, a7Q]
 by_cases h : (0 : Int) = c
 ·rw [if_pos h, if_pos h, Int.add_zero]
 ·rw [if_neg h, if_neg h, Int.mul_zero, Int.add_zero]
section
variable {P : Program} {w : World} {A : Around} {E : Value → Shared → Prop} {s : Shared}
end
section
variable {X : Cx}
end
noncomputable def Sml (p : Po) : Prop := ∀ x ∈ p, x.2.natAbs < 2 ^ 64
theorem a9Y : toL [(0, 0)] = zL := Lp.ext2 fun c => by
 rw [co_L]
 show (if (0 : Int) = c then (0 : Int) else 0) + 0 = co (toL []).1 c
 rw [co_L]
 split <;> rfl
noncomputable instance : NatCast Lp := ⟨fun n => sgU n⟩
noncomputable instance {n : Nat} : OfNat Lp n := ⟨sgU n⟩
noncomputable instance : IntCast Lp := ⟨sgU⟩
noncomputable instance : Neg Lp := ⟨fun a => sgU (-1) * a⟩
noncomputable instance : _root_.Sub Lp := ⟨fun a b => a + sgU (-1) * b⟩
noncomputable instance : SMul Nat Lp := ⟨fun n a => sgU n * a⟩
noncomputable instance : SMul Int Lp := ⟨fun n a => sgU n * a⟩
noncomputable def powL (a : Lp) : Nat → Lp
 | 0 => sgU 1
 | n + 1 => powL a n * a
noncomputable instance : HPow Lp Nat Lp := ⟨powL⟩
theorem b0Q (a b : Int) : sgU (a + b) = sgU a + sgU b := Lp.ext2 fun c => by
 unfold sgU
 rw [a2d, co_L, co_L, co_L, a7Q, a7Q, a7Q]
 split <;> lia
theorem b0c : sgU 0 = zL := a9Y
noncomputable instance : Lean.Grind.CommRing Lp where
 add_zero a := by show a + sgU ((0 : Nat) : Int) = a; exact (by rw [show ((0 : Nat) : Int) = 0 from rfl, b0c, b7S])
 add_comm := a8d
 add_assoc := a6c
 mul_assoc := a4A
 mul_one a := by show a * sgU ((1 : Nat) : Int) = a; exact b1C a
 one_mul a := by show sgU ((1 : Nat) : Int) * a = a; rw [a1o]; exact b1C a
 left_distrib := b5J
 right_distrib a b c := by rw [a1o, b5J, a1o c, a1o c]
 zero_mul a := by show sgU ((0 : Nat) : Int) * a = sgU ((0 : Nat) : Int); rw [show ((0 : Nat) : Int) = 0 from rfl, b0c, a1o, b1B]
 mul_zero a := by show a * sgU ((0 : Nat) : Int) = sgU ((0 : Nat) : Int); rw [show ((0 : Nat) : Int) = 0 from rfl, b0c, b1B]
 pow_zero a := rfl
 pow_succ a n := rfl
 ofNat_succ n := by
  show sgU ((n + 1 : Nat) : Int) = sgU (n : Int) + sgU ((1 : Nat) : Int)
  rw [Int.natCast_add, b0Q]
 ofNat_eq_natCast n := rfl
 nsmul_eq_natCast_mul n a := rfl
 neg_add_cancel a := by
  show sgU (-1) * a + a = sgU ((0 : Nat) : Int)
  have e : sgU (-1) * a + a = sgU (-1) * a + sgU 1 * a := by rw [show sgU 1 * a = a from by rw [a1o]; exact b1C a]
  rw [e, a1o, a1o (sgU 1), ← b5J, ← b0Q, show (-1 : Int) + 1 = 0 by decide, b0c, b1B]
  exact b0c.symm
 sub_eq_add_neg a b := rfl
 neg_zsmul i a := by
  show sgU (-i) * a = sgU (-1) * (sgU i * a)
  rw [← a4A, b0P, show -1 * i = -i by lia]
 zsmul_natCast_eq_nsmul n a := rfl
 intCast_ofNat n := rfl
 intCast_neg i := by
  show sgU (-i) = sgU (-1) * sgU i
  rw [b0P, show -1 * i = -i by lia]
 mul_comm := a1o
theorem b2J : zL = (0 : Lp) := b0c.symm
section
variable {R : Type} [Lean.Grind.CommRing R]
end
theorem b3p (k l s t : Int) : toL [(k, s)] * toL [(l, t)] = toL [(k + l, s * t)] := by
 rw [← a2x]
 refine b0F fun c => ?_
 unfold a1l
 rw [a2c]
 rfl
noncomputable def g1 (_ : Int) : Int := 1
section
variable {P : Program} {w : World} {A : Around} {E : Value → Shared → Prop} {s : Shared}
end
section
variable {X : Cx} {e f : Expr}
end
noncomputable def a8Y (te : TE3) : TE3 := fun ρ M Q => te ρ M fun x M1 => match x with
 | .adr p => (match M1 p with
   | some (.lst ts) => ∃ ns : List Int, ts = ns.map .int ∧ ns.length < 60 ∧ Q (.int (ns.foldl step_dedup []).length) M1
   | _ => False)
 | _ => False
section
variable {X : Cx} {e : Expr} {te : TE3} {p p2 pos pos2 : Pos}
theorem a7F (hc : X.calm = true) (he : HE X e te) (hm : X.mg "len" = none) (hm2 : X.mg "set" = none) (hg : Gl X "len" := by rfl) (hg2 : Gl X "set" := by rfl)
  (h1 : starEach [e] X.env = (false, eval e X.env) :: starEach [] X.env := by rfl) (h2 : (backTo pos2 (starEach [] X.env)).any (·.1) = false := by rfl)
  (h3 : starEach [.Call (.Name "set" p2) [e] [] pos2] X.env = (false, eval (.Call (.Name "set" p2) [e] [] pos2) X.env) :: starEach [] X.env := by rfl) (h4 : (backTo pos (starEach [] X.env)).any (·.1) = false := by rfl) :
  HE X (.Call (.Name "len" p) [.Call (.Name "set" p2) [e] [] pos2] [] pos) (a8Y te) := by
 intro ρ M Q h pins s σ H Q2 I bb
 obtain ⟨hr, hh, en⟩ := bb
 refine wpAny_Call_Name_kw (a2Z I hg hm boot_len ?_)
 refine PyProof.Rows.callWith_builtin1 ?_ h3 h4
 rw [h3]
 show wpAny _ _ (spliced ((false, eval (.Call (.Name "set" p2) [e] [] pos2) X.env) :: backTo pos (starEach [] X.env))) _ _ s
 refine Calls.spliced_cons ?_
 refine wpAny_Call_Name_kw (a2Z I hg2 hm2 PyProof.Rows.boot_set ?_)
 refine PyProof.Rows.callWith_type1 ?_ h1 h2
 rw [h1]
 show wpAny _ _ (spliced ((false, eval e X.env) :: backTo pos2 (starEach [] X.env))) _ _ s
 refine Calls.spliced_cons (thn (he ρ M _ h pins s σ H (fun v H1 => ∃ t M1, Kp X.K H H1 ∧ HR X.K H1 M1 ∧ Rep X.K H1 v t ∧ (match t with
  | .adr p => (match M1 p with
    | some (.lst ts) => ∃ ns : List Int, ts = ns.map .int ∧ ns.length < 60 ∧ Q (.int (ns.foldl step_dedup []).length) M1
    | _ => False)
  | _ => False)) I ⟨hr, hh, fun t v M1 H1 k1 h1 r1 q1 => ⟨t, M1, k1, h1, r1, q1⟩⟩) fun u s1 ⟨v, H1, I1, r, t, M1, k1, hh1, r1, q1⟩ => ?_)
 refine Calls.spliced_nil ?_
 split at q1
 ·rename_i a
  split at q1
  ·rename_i ts e0
   obtain ⟨ns, rfl, h60, q⟩ := q1
   obtain rfl := a0A r1
   cases r
   obtain ⟨xs, g1, g2⟩ := hh1 _ _ e0
   obtain rfl := a7c g2
   obtain ⟨its, r', pl, hz⟩ := I1.list (SqL.of g1)
   have hlen : its.length = ns.length := by have := r'.length; rw [List.length_map] at this; lia
   refine call_set_list (items := its.toArray) (ns := ns) (I1.ok.hd hc) pl.isList (by simpa using a5U r') (by simp only [List.size_toArray]; rw [hlen]; exact Nat.lt_trans (Nat.succ_lt_succ h60) (by decide)) fun h' tk hs hk => ?_
   refine Calls.spliced_nil ?_
   obtain ⟨o, es, ep, t, ho, hex, hd, _, _, hsz, hf, hn⟩ := hs
   have kk : ∀ b u, s1.heap.get? b = some u → h'.get? b = some u := fun b u e => hk b u (Heap.lt_size e) e
   refine call_len_set (s := { s1 with heap := h', toks := tk }) ho hex hd hf (by have : es.size < 4096 := hsz; omega) ?_
   have hfm : firstMet (fun i => ns.getD i 0) its.toArray.size = ns.foldl step_dedup [] := by
    unfold firstMet
    rw [List.size_toArray, hlen]
    congr 1
    apply List.ext_getElem
    ·simp
    ·intro i i1 i2
     rw [List.getElem_map, List.getElem_range, List.getD_eq_getElem?_getD, List.getElem?_eq_getElem i2]; rfl
   rw [hfm] at hn
   rw [← hn] at q
   exact ⟨.int es.size, H1, I1.kept kk, ⟨_, rfl⟩, en _ _ M1 H1 k1 hh1 a0x q⟩
  ·exact q1.elim
 ·exact q1.elim
end
theorem b3Y (x : Int) : ∀ (ns acc : List Int), x ∈ ns.foldl step_dedup acc ↔ x ∈ acc ∨ x ∈ ns
 | [], acc => by simp
 | n :: ns, acc => by
   rw [List.foldl_cons, b3Y x ns]
   by_cases c : acc.any (· == n) = true
   ·rw [show step_dedup acc n = acc from if_pos c]
    obtain ⟨y, hy, e⟩ := List.any_eq_true.mp c
    have e : y = n := by simpa using e
    subst e
    constructor
    ·rintro (h | h)
     ·exact .inl h
     ·exact .inr (.tail _ h)
    ·rintro (h | h)
     ·exact .inl h
     ·rcases List.mem_cons.mp h with z | z
      ·rw [z]; exact .inl hy
      ·exact .inr z
   ·rw [show step_dedup acc n = acc ++ [n] from if_neg c, List.mem_append, List.mem_singleton, List.mem_cons]
    constructor
    ·rintro ((h | h) | h)
     ·exact .inl h
     ·exact .inr (.inl h)
     ·exact .inr (.inr h)
    ·rintro (h | h | h)
     ·exact .inl (.inl h)
     ·exact .inl (.inr h)
     ·exact .inr h
section
variable {X : Cx}
end
theorem a6I {K : PySem.W.Frag} {H : Hp} {v : V} {ks : List Int} {ts : List T} (r : Rep K H v (.dic ks ts)) : ∃ b, v = .ref b ∧ H b = some (.tup (ks.map V.int)) := by unfold Rep at r; exact r
theorem a8q {K : PySem.W.Frag} {H : Hp} {b : Addr} {ks : List Int} {ts : List T} (h : H b = some (.tup (ks.map V.int))) : Rep K H (.ref b) (.dic ks ts) := by unfold Rep; exact ⟨b, rfl, h⟩
noncomputable def tKt (t : TE3) : TE3 := fun ρ M Q => t ρ M fun x M1 => match x with
 | .dic ks _ => Q (.tup (ks.map .int)) M1
 | _ => False
noncomputable def kyI (ks : List Int) : List Key := ks.map Sum.inl
theorem a7t (ks : List Int) : (kyI ks).map kV = ks.map V.int := by unfold kyI; rw [List.map_map]; rfl
noncomputable def dtI (D : List (List Int × T)) : List (List Key × T) := D.map fun d => (kyI d.1, d.2)
section
variable {X : Cx} {pos : Pos}
theorem a3u {e : Expr} {t : TE3} (h : HE X e t) : HE X e (tKt t) := fun ρ M Q q => (h ρ M _ q).imp fun σ H Q2 ⟨hr, hh, en⟩ => ⟨hr, hh, fun x v M1 H1 k1 h1 r1 q1 => by
 cases x with
 | dic ks ts =>
   obtain ⟨b, rfl, hb⟩ := a6I r1
   exact en _ _ M1 H1 k1 h1 (a1O (SqT.of hb) (Reps.of_ints ks)) q1
 | _ => exact q1.elim⟩
noncomputable def b4I : List T → MH → VK3 → Prop := fun xs M Q => match xs with
 | [.adr p] => (match M p with | some (.lst ts) => ∃ ks : List Int, ts = ks.map .int ∧ Q (.dic ks []) M | _ => False)
 | _ => False
theorem b0z : a2R X (.type "tuple") b4I := by
 intro pins s σ H vs us Q2 I r h
 obtain ⟨xs, M, Q, rr, hh, q, en⟩ := h
 unfold b4I at q
 split at q
 ·obtain ⟨v, rfl, r1⟩ := a2a rr
  obtain rfl := a0A r1
  split at q
  ·rename_i ts e0
   obtain ⟨ks, rfl, q⟩ := q
   obtain ⟨ys, g1, g2⟩ := hh _ _ e0
   obtain rfl := Reps.ints g2
   exact a2q pins s σ H _ us Q2 I r ⟨_, _, rfl, .inl ⟨SqL.of g1, fun l hl => en _ _ M _ (Kp.new hl) (hh.keep hl) (a8q a0u) q⟩⟩
  ·exact q.elim
 ·exact q.elim
noncomputable def b4S : R3 := fun x y M Q => match x, y with
 | .tup ts, .tup us => ∃ as bs : List Int, ts = as.map .int ∧ us = bs.map .int ∧ as ≠ [] ∧ bs ≠ [] ∧ as.length + bs.length ≤ sizeLine ∧ Q (.dic (as ++ bs) []) M
 | _, _ => False
theorem b3m : OpR3 X (binaryOp .Add) b4S := by
 intro pins s σ H x y v u Q2 I rx ry q
 obtain ⟨a, b, M, Q, r1, r2, hh, q, en⟩ := q
 unfold b4S at q
 split at q
 ·obtain ⟨as, bs, rfl, rfl, ha, hb, hz, q⟩ := q
  obtain ⟨p, xs, rfl, h1, h2⟩ := a1e r1
  obtain ⟨p', ys, rfl, g1, g2⟩ := a1e r2
  obtain rfl := Reps.ints h2
  obtain rfl := Reps.ints g2
  refine b1r pins s σ H _ _ v u Q2 I rx ry ⟨_, _, _, _, rfl, rfl, h1, g1, fun z => ha (List.map_eq_nil_iff.mp z), by rw [List.length_map, List.length_map]; exact hz, fun hy => absurd (List.map_eq_nil_iff.mp hy) hb, fun hy r hr => ?_⟩
  refine en _ _ M _ (Kp.new hr) (hh.keep hr) (a8q ?_) q
  rw [a0u, List.map_append]
 ·exact q.elim
noncomputable def b6n (td tk tx : TE3) : TE3 := fun ρ M Q => td ρ M fun x M1 => b0t M1 x ∧ tk ρ M1 fun k M2 => tx ρ M2 fun z M3 => match x, k with
 | .adr p, .dic ks _ => (match M3 p with
   | some (.dt kvs) => Q ((valT kvs (kyI ks)).getD z) M3
   | _ => False)
 | _, _ => False
theorem b7B {o e f : Expr} {td tk tx : TE3} {apos cpos : Pos} (hu : X.A.units + 64 < cLine) (ho : HE X o td) (he : HE X e tk) (hf : HE X f tx)
  (m1 : attributeBase o "get" X.env (eval o X.env) = eval o X.env := by rfl)
  (m2 : ((backTo cpos (starEach [e, f] X.env)).all (fun x => !x.1) && (backToKw cpos (keywordEach [] X.env)).all (fun x => x.1.isSome)
   && decide (([e, f] : List Expr).length + ([] : List Keyword).length + (if ([] : List Keyword).isEmpty then 0 else 1) < 30)) = true := by rfl)
  (m3 : (apos.endLine == cpos.line) = true := by rfl) (m4 : backTo cpos (starEach [e, f] X.env) = [(false, eval e X.env), (false, eval f X.env)] := by rfl) :
  HE X (.Call (.Attribute o "get" apos) [e, f] [] cpos) (b6n td tk tx) := fun ρ M Q h =>
 (a9n (by lia) (ho.d (ρ := ρ)) (he.d (ρ := ρ)) (hf.d (ρ := ρ)) ⟨m1, m2, m3, m4⟩).imp fun σ H Q2 ⟨hr, hh, en⟩ => ⟨M, _, h, hr, hh, fun x v M1 H1 k1 h1 r1 q1 => by
  obtain ⟨hd, q1⟩ := q1
  obtain ⟨a, rfl, isd⟩ := a6H h1 r1 hd
  refine ⟨a, rfl, isd, M1, _, q1, hr.kp k1, h1, fun y v2 M2 H2 k2 h2 r2 q2 => ⟨M2, _, q2, hr.kp (k1.trans k2), h2, fun z v3 M3 H3 k3 h3 r3 q3 => ?_⟩⟩
  cases x with
  | adr p =>
    cases r1
    cases y with
    | dic ks ts =>
      dsimp only at q3
      split at q3
      ·rename_i kvs e
       obtain ⟨b, rfl, hb⟩ := a6I r2
       obtain ⟨xs, g1, g2⟩ := h3 _ _ e
       refine ⟨_, DGet.t g1 (b := b) (k := kyI ks) (by rw [a7t]; exact k3.tr _ _ hb), en _ _ M3 H3 ((k1.trans k2).trans k3) h3 ?_ q3⟩
       have hv := g2.val (kyI ks)
       cases ev : valT kvs (kyI ks) with
       | none => rw [ev] at hv; rw [hv]; exact r3
       | some t =>
         rw [ev] at hv
         obtain ⟨u, e1, e2⟩ := hv
         rw [e1]; exact e2
      ·exact q3.elim
    | _ => exact q3.elim
  | _ => exact hd.elim⟩
noncomputable def sDPD (td tk tv : TE3) : TS3 := fun D ρ M => tv ρ M fun z M1 => td ρ M1 fun x M2 => tk ρ M2 fun k M3 => match x, k with
 | .adr p, .dic ks _ => (match M3 p with
   | some (.dt kvs) => kvs.length < sizeLine ∧ D.nx ρ (updM M3 p (.dt (putT kvs (kyI ks) z)))
   | _ => False)
 | _, _ => False
theorem b8h {o i value : Expr} {td tk tv : TE3} {pos pos' : Pos} (hu : X.A.units + 64 < cLine) (hv : HE X value tv) (ho : HE X o td) (hi : HE X i tk) (hs : swapsWith value (some (.Subscript o i pos')) pos.line X.env = pure false := by rfl) :
  HS X (.Assign [.Subscript o i pos'] value pos) (sDPD td tk tv) := fun D ρ M h =>
 (b1i (by lia) (ho.d (ρ := ρ)) (hi.d (ρ := ρ)) (hv.d (ρ := ρ)) hs).imp fun D2 σ H ⟨hr, hh, en⟩ => ⟨M, _, h, hr, hh, fun z v M1 H1 k1 h1 r1 q1 => ⟨M1, _, q1, hr.kp k1, h1, fun x v2 M2 H2 k2 h2 r2 q2 => ⟨M2, _, q2, hr.kp (k1.trans k2), h2, fun y v3 M3 H3 k3 h3 r3 q3 => by
  cases x with
  | adr p =>
    cases r2
    cases y with
    | dic ks ts =>
      dsimp only at q3
      split at q3
      ·rename_i kvs e
       obtain ⟨hl, q3⟩ := q3
       obtain ⟨b, rfl, hb⟩ := a6I r3
       obtain ⟨xs, g1, g2⟩ := h3 _ _ e
       have kk' := Kp.dict (K := X.K) (u := .dT (putK xs (kyI ks) v)) g1 (.inr ⟨_, rfl⟩)
       have kall := (k1.trans k2).trans (k3.trans kk')
       refine ⟨_, _, rfl, DPut.t g1 (b := b) (k := kyI ks) (by rw [a7t]; exact hb) (by rw [g2.length]; exact hl), en.nx _ _ _ _ kall (hr.kp kall) (h3.setT g1 (.inr ⟨_, rfl⟩) (g2.put (kyI ks) (Rep.kp (k2.trans k3) _ _ r1))) q3⟩
      ·exact q3.elim
    | _ => exact q3.elim
  | _ => exact q3.elim⟩⟩⟩
end
noncomputable def a9J (Q : VK3) (p : Addr) (k z : T) (M2 : MH) : Prop := match k with
 | .dic ks _ => M2 p = some (.dt []) ∧ Q (.adr p) (updM M2 p (.dt [(kyI ks, z)]))
 | _ => False
noncomputable def b3V (tk tv : TE3) : TE3 := fun ρ M Q => ∀ p, M p = none → tk ρ (updM M p (.dt [])) fun k M1 => tv ρ M1 fun z M2 => a9J Q p k z M2
section
variable {X : Cx} {pos : Pos}
theorem b5C {k v : Expr} {tk tv : TE3} (hu : X.A.units + 64 < cLine) (hk : HE X k tk) (hv : HE X v tv) : HE X (.Dict [some k] [v] pos) (b3V tk tv) := by
 intro ρ M Q q pins s σ H Q2 I bb
 obtain ⟨hr, hh, en⟩ := bb
 have hn := I.hok.fresh (Nat.le_refl s.heap.objs.size)
 have I1 := I.laid (a := s.heap.objs.size) (o := .dT []) (h' := s.heap.push { cls := .type "dict", data := .dict #[] }) (t' := s.toks) (fun _ _ q => Heap.get?_push_of_some _ q) (Nat.le_refl _) (a9H s.heap I.big)
 have k0 := Kp.new (K := X.K) (o := .dT []) hn
 have hh1 : HR X.K (upd H s.heap.objs.size (.dT [])) (updM M s.heap.objs.size (.dt [])) := hh.newT hn (kvs := []) (xs := []) trivial
 refine wpAny_Dict_any rfl rfl (by simp) (by simp) (pairTrees_cons_walk (thn (hk ρ _ _ (q _ (hh.free hn)) pins _ σ _ (fun v1 H1 => ∃ x M1, Rep X.K H1 v1 x ∧ HR X.K H1 M1 ∧ Kp X.K (upd H s.heap.objs.size (.dT [])) H1 ∧ tv ρ M1 fun z M2 => a9J Q s.heap.objs.size x z M2) I1 ⟨hr.kp k0, hh1, fun x v1 M1 H1 k1 h1 r1 q1 => ⟨x, M1, r1, h1, k1, q1⟩⟩) fun u s1 ⟨xv, H1, I2, rx, x, M1, r1, h1, k1, q1⟩ => ?_))
 refine thn (hv ρ M1 _ q1 pins s1 σ H1 (fun v2 H2 => ∃ z M2, Rep X.K H2 v2 z ∧ HR X.K H2 M2 ∧ Kp X.K H1 H2 ∧ a9J Q s.heap.objs.size x z M2) I2 ⟨hr.kp (k0.trans k1), h1, fun z v2 M2 H2 k2 h2 r2 q2 => ⟨z, M2, r2, h2, k2, q2⟩⟩) fun w2 s2 ⟨zv, H2, I3, rz, z, M2, r2, h2, k2, q2⟩ => pairTrees_nil_walk ?_
 cases x with
 | dic ks ts =>
   obtain ⟨q3, q4⟩ := q2
   obtain ⟨b, rfl, hb⟩ := a6I r1
   cases rx
   have hb2 := k2.tr _ _ hb
   obtain ⟨zs, e, kr0⟩ := h2 _ _ q3
   obtain rfl : zs = [] := by cases zs with | nil => rfl | cons a b => exact kr0.elim
   obtain ⟨z0, hd, xs, rel, dd⟩ := b7H I3.hok e
   have hz : xs.length ≤ sizeLine := by rw [← Paired.length rel]; exact z0
   unfold storeAll
   rw [List.forIn_cons]
   refine wpAny_bind (wpAny_bind (wpAny_dictSet_heap (hsz := hz) (show X.A.units < cLine by lia) (a5R (ks := kyI ks) I3.hok (by rw [a7t]; exact hb2)) dd fun h' dd' hs => wpAny_pure ?_))
   show wpAny _ _ (forIn [] PUnit.unit _) _ _ _
   rw [List.forIn_nil]
   refine wpAny_pure ?_
   obtain ⟨qo, es, ep, hq, h2', h3, h4, _, h5⟩ := dd'
   have hne : b ≠ s.heap.objs.size := fun z => by rw [z, e] at hb2; cases hb2
   refine ⟨.ref s.heap.objs.size, _, a5p I3 (by rw [e]; exact True.intro) hs ⟨qo, hq⟩ (ob := .dT (putK [] (kyI ks) zv)) ⟨?_, hd, _, (rel.put (kyI ks) (b := b) (by rw [a7t]; exact hb2) rz).keeps fun c ys ec => ?_, qo, es, ep, hq, h2', h3, h4, h5⟩, rfl, en _ _ _ _ ((k0.trans k1).trans (k2.trans (Kp.dict e (.inr ⟨_, rfl⟩)))) (h2.setT e (.inr ⟨_, rfl⟩) ?_) a1r q4⟩
   ·have := a4a ([] : List (List Key × V)) (kyI ks) zv
    rw [sizeLine_eq]
    simp only [List.length_nil] at this
    lia
   ·rw [a0n (b5p ec e (fun z => nomatch z))]
    exact ec
   ·exact ⟨rfl, r2, trivial⟩
 | _ => exact q2.elim
end
section
variable {P : Program} {w : World} {A : Around} {E : Value → Shared → Prop} {s : Shared}
theorem a7z {d : Addr} {Q : Value → Shared → Prop} (hT : s.TypeIs (.ref d) "dict") (hd : (d == sysModules) = false)
  (hQ : Q (.ref s.heap.objs.size) { s with heap := s.heap.push { cls := .type "dict_items", data := .fields #[.ref d] } }) : wpAny (model P w) A (call (.builtin "dict.items") [.ref d]) Q E s := by
 refine wpAny_call_entry F.slot_dict_items hT F.entry_dict_items ?_ (F.args_dict_items_1 _)
 unfold Builtin.«dict.items»; refine wpAny_bind ?_; unfold Builtin.Dict.noArgs
 refine wpAny_bind (wpAny_notOrdered_dict hT ?_); show wpAny _ _ (pure d) _ _ s; refine wpAny_pure ?_
 show wpAny _ _ (Builtin.Dict.showsAll d >>= _) _ _ s; unfold Builtin.Dict.showsAll; rw [if_neg (fun z => by rw [hd] at z; cases z)]
 refine wpAny_bind (wpAny_pure ?_); exact wpAny_bind (wpAny_newObj_type (wpAny_pure ⟨_, rfl, hQ⟩))
theorem a6G {vw d : Addr} {o : Obj} {es : Array DictEntry} {ep : Nat} {Q : Value → Shared → Prop} (hv : s.heap.IsItemsView vw d) (ho : s.heap.get? d = some o) (hdat : o.data = .dict es ep)
  (hQ : Q (.ref s.heap.objs.size) { s with heap := s.heap.push { cls := .type "dict_itemiterator", data := .fields #[.none, .bool false, .ref d, .int 0 0, .int es.size 0, .int ep 0, .none, .none] } }) : wpAny (model P w) A (pyIter (.ref vw)) Q E s := by
 obtain ⟨ov, hov, hcv, hdv⟩ := id hv
 refine wpAny_pyIter_slot hv.typeIs F.slot_dict_items_iter (wpAny_call_entry F.slot_dict_items_iter hv.typeIs F.entry_dict_items_iter ?_ (F.args_dict_items_iter_1 _))
 unfold Builtin.«dict_items.__iter__»; refine wpAny_bind (wpAny_pure (wpAny_bind ?_)); unfold Builtin.Dict_items.dictOf
 refine wpAny_bind (wpAny_field hov hdv (x := .ref d) rfl (wpAny_pure (wpAny_bind ?_))); unfold Builtin.Dict_items.newIterator
 refine wpAny_bind (wpAny_dictEntries ho hdat (wpAny_bind (wpAny_dictEpoch ho hdat ?_)))
 simp only [show Builtin.Dict_items.ownsTuple "dict_itemiterator" = true by decide, if_true]
 refine wpAny_newObj_type (wpAny_pure ⟨_, rfl, "dict_itemiterator", _, ⟨_, Heap.get?_push_size _ rfl, rfl⟩, F.slot_dict_itemiterator_next.lookup, ?_⟩) (by simp only [sizeOk, Builtin.Dict_items.ownedTupleFields, List.size_toArray, List.length_append, List.length_cons, List.length_nil, sizeLine_eq]; lia)
 simpa [rawInt, Builtin.Dict_items.ownedTupleFields] using hQ
theorem a7B {it d : Addr} {o : Obj} {es : Array DictEntry} {ep i : Nat} {e : DictEntry} {ok ov : Value} {Q : Option Value → Shared → Prop} (hit : IsItemIter s.heap it d i es.size ep ok ov) (hod : s.heap.get? d = some o) (hdd : o.data = .dict es ep) (hx : es[i]? = some e)
  (hQ : ∀ h', IsItemIterOut h' it d (i + 1) es.size ep e.key e.val s.heap.objs.size → h'.get? s.heap.objs.size = some { cls := .type "tuple", data := .seq #[e.key, e.val] } → h'.objs.size = s.heap.objs.size + 1 → (∀ b o, b ≠ it → s.heap.get? b = some o → h'.get? b = some o) → Q (some (.ref s.heap.objs.size)) { s with heap := h' }) :
  wpAny (model P w) A (pyNext (.ref it)) Q E s := by
 obtain ⟨hp, g, dr, tk, os⟩ := s
 have hT : Shared.TypeIs ⟨hp, g, dr, tk, os⟩ (.ref it) "dict_itemiterator" := ⟨_, hit, rfl⟩
 unfold pyNext
 refine wpAny_bind (wpAny_attempt (wpAny_callSpecial?_slot (name := Str.ofString "__next__") hT F.slot_dict_itemiterator_next (wpAny_call_entry F.slot_dict_itemiterator_next hT F.entry_dict_itemiterator_next (wpAny_bind (wpAny_pure (wpAny_bind (wpAny_bind ?_)))) (F.args_dict_itemiterator_next_1 _))))
 first | refine wpAny_bind (wpAny_typeNameOfWhole_itemiter hT (wpAny_pure (wpAny_bind (wpAny_fieldsOf hit rfl ?_)))) | refine wpAny_bind (wpAny_typeNameOf_itemiter hT (wpAny_pure (wpAny_bind (wpAny_fieldsOf hit rfl ?_))))
 simp only [show Builtin.Dict_items.ownsTuple "dict_itemiterator" = true by decide, if_true]
 show wpAny _ _ (if (Value.ref d == Value.none) = true then _ else _) _ _ _; rw [if_neg (fun z => by cases z)]
 refine wpAny_bind (wpAny_pure (wpAny_bind (wpAny_dictEntries hod hdd ?_))); rw [if_neg (by simp)]
 refine wpAny_bind (wpAny_pure (wpAny_bind (wpAny_dictEpoch hod hdd ?_))); rw [if_neg (by simp)]; refine wpAny_pure ?_
 simp only [show ¬ ((i : Int) < 0) from by lia, if_false, Int.toNat_natCast, hx]
 refine wpAny_bind ?_
 first | refine wpAny_bind (wpAny_typeNameOfWhole_itemiter hT (wpAny_pure (wpAny_bind (wpAny_isOneOf_itemiter hT ?_)))) | refine wpAny_bind (wpAny_typeNameOf_itemiter hT (wpAny_pure (wpAny_bind (wpAny_isOneOf_itemiter hT ?_))))
 show wpAny _ _ (setField (.ref it) 3 (rawInt ((i : Int) + 1)) >>= _) _ _ ⟨hp, g, dr, tk, os⟩
 refine wpAny_bind (wpAny_setField_rec hit (by simp) fun h1 e1 s1 => ?_)
 replace s1 : Heap.SameBut it hp h1 := s1
 replace e1 : IsItemIter h1 it d (i + 1) es.size ep ok ov := by
  unfold IsItemIter; rw [show ((i + 1 : Nat) : Int) = (i : Int) + 1 by lia]; simpa [rawInt] using e1
 have hT1 : Shared.TypeIs ⟨h1, g, dr, tk, os⟩ (.ref it) "dict_itemiterator" := ⟨_, e1, rfl⟩
 refine wpAny_bind (wpAny_holding (wpAny_bind (wpAny_isOneOf_itemiter hT1 (wpAny_bind (wpAny_isOneOf_itemiter hT1 ?_)))))
 show wpAny _ _ (Builtin.Dict_items.pairFromOwner (.ref it) 6 e.key e.val) _ _ ⟨h1, g, dr, tk, os⟩
 unfold Builtin.Dict_items.pairFromOwner; refine wpAny_bind (wpAny_newTuple ?_)
 have e2 : IsItemIter (h1.push { cls := .type "tuple", data := .seq #[e.key, e.val] }) it d (i + 1) es.size ep ok ov := Heap.get?_push_of_some _ e1
 generalize hh2 : h1.push { cls := .type "tuple", data := .seq #[e.key, e.val] } = h2 at e2
 have z1 : h1.objs.size = hp.objs.size := s1.1
 have hil : it < hp.objs.size := Heap.lt_size hit
 have t2 : h2.get? hp.objs.size = some { cls := .type "tuple", data := .seq #[e.key, e.val] } := by rw [← hh2, ← z1]; exact Heap.get?_push_size _ rfl
 have z2 : h2.objs.size = hp.objs.size + 1 := by rw [← hh2, Heap.size_push, z1]
 have k2 : ∀ b o, b ≠ it → hp.get? b = some o → h2.get? b = some o := fun b o hb e => by rw [← hh2]; exact Heap.get?_push_of_some _ (s1.extBut b o hb e)
 show wpAny _ _ (Builtin.Dict_items.ownedTupleIsFree (.ref it) >>= _) _ _ ⟨h2, g, dr, tk, os⟩; rw [z1]
 clear hh2 e1 s1 hT1 z1 h1
 refine wpAny_bind ?_; unfold Builtin.Dict_items.ownedTupleIsFree
 refine wpAny_bind (wpAny_field e2 rfl (x := .none) rfl (wpAny_pure ?_)); simp only [if_true]
 refine wpAny_bind (wpAny_field e2 rfl (x := ok) rfl (wpAny_bind (wpAny_field e2 rfl (x := ov) rfl (wpAny_bind (wpAny_setField_rec e2 (by simp) fun h3 e3 s3 => ?_)))))
 replace s3 : Heap.SameBut it h2 h3 := s3
 replace e3 : IsItemIter h3 it d (i + 1) es.size ep e.key ov := e3
 refine wpAny_bind (wpAny_setField_rec e3 (by simp) fun h4 e4 s4 => ?_)
 replace s4 : Heap.SameBut it h3 h4 := s4
 replace e4 : IsItemIter h4 it d (i + 1) es.size ep e.key e.val := e4
 refine wpAny_bind (wpAny_setField_rec e4 (by simp) fun h5 e5 s5 => ?_)
 replace s5 : Heap.SameBut it h4 h5 := s5
 replace e5 : IsItemIterOut h5 it d (i + 1) es.size ep e.key e.val hp.objs.size := e5
 refine wpAny_bind (wpAny_setField_rec e5 (by simp) fun h6 e6 s6 => ?_)
 replace s6 : Heap.SameBut it h5 h6 := s6
 replace e6 : IsItemIterOut h6 it d (i + 1) es.size ep e.key e.val hp.objs.size := e6
 refine wpAny_bind (wpAny_letGo (wpAny_pure (wpAny_pure ⟨_, rfl, wpAny_pure (hQ h6 e6 ?_ ?_ ?_)⟩)))
 ·exact s6.extBut _ _ (Nat.ne_of_gt hil) (s5.extBut _ _ (Nat.ne_of_gt hil) (s4.extBut _ _ (Nat.ne_of_gt hil) (s3.extBut _ _ (Nat.ne_of_gt hil) t2)))
 ·show h6.objs.size = hp.objs.size + 1
  rw [s6.1, s5.1, s4.1, s3.1, z2]
 ·exact fun b o hb e => s6.extBut b o hb (s5.extBut b o hb (s4.extBut b o hb (s3.extBut b o hb (k2 b o hb e))))
theorem a7A {it d : Addr} {o : Obj} {es : Array DictEntry} {ep i : Nat} {ok ov : Value} {Q : Option Value → Shared → Prop} (hh : A.handled = none) (hit : IsItemIter s.heap it d i es.size ep ok ov) (hod : s.heap.get? d = some o) (hdd : o.data = .dict es ep) (hx : es.size ≤ i)
  (hQ : ∀ h', Heap.ExtBut it s.heap h' → Q none { s with heap := h' }) : wpAny (model P w) A (pyNext (.ref it)) Q E s := by
 have hT : s.TypeIs (.ref it) "dict_itemiterator" := ⟨_, hit, rfl⟩
 unfold pyNext
 refine wpAny_bind (wpAny_attempt (wpAny_callSpecial?_slot (name := Str.ofString "__next__") hT F.slot_dict_itemiterator_next (wpAny_call_entry F.slot_dict_itemiterator_next hT F.entry_dict_itemiterator_next (wpAny_bind (wpAny_pure (wpAny_bind (wpAny_bind ?_)))) (F.args_dict_itemiterator_next_1 _))))
 first | refine wpAny_bind (wpAny_typeNameOfWhole_itemiter hT (wpAny_pure (wpAny_bind (wpAny_fieldsOf hit rfl ?_)))) | refine wpAny_bind (wpAny_typeNameOf_itemiter hT (wpAny_pure (wpAny_bind (wpAny_fieldsOf hit rfl ?_))))
 simp only [show Builtin.Dict_items.ownsTuple "dict_itemiterator" = true by decide, if_true]
 show wpAny _ _ (if (Value.ref d == Value.none) = true then _ else _) _ _ _; rw [if_neg (fun z => by cases z)]
 refine wpAny_bind (wpAny_pure (wpAny_bind (wpAny_dictEntries hod hdd ?_))); rw [if_neg (by simp)]
 refine wpAny_bind (wpAny_pure (wpAny_bind (wpAny_dictEpoch hod hdd ?_))); rw [if_neg (by simp)]; refine wpAny_pure ?_
 simp only [show ¬ ((i : Int) < 0) from by lia, if_false, Int.toNat_natCast, Array.getElem?_eq_none hx]
 refine wpAny_bind ?_
 first | refine wpAny_bind (wpAny_typeNameOfWhole_itemiter hT (wpAny_pure ?_)) | refine wpAny_bind (wpAny_typeNameOf_itemiter hT (wpAny_pure ?_))
 show wpAny _ _ (setField (.ref it) 2 .none >>= _) _ _ s; refine wpAny_bind (wpAny_setField hit rfl (by simp) ?_)
 show wpAny _ _ (newExc (.type "StopIteration") [] >>= _) _ _ _; refine wpAny_bind ?_
 simp only [newExc, newTuple]; refine wpAny_bind (wpAny_newObj_type ?_ (by size_fits))
 refine wpAny_bind (m := firstArgMember _ _) (wpAny_of_eq (a := Value.none) (by first | rfl | (simp only [firstArgMember]; rfl)) (wpAny_newObj_type ?_ (by size_fits)))
 simp only [raiseNew]; refine wpAny_bind (wpAny_handled ?_); rw [show A.in1.handled = none from hh]
 refine wpAny_bind (wpAny_pure (wpAny_throw ?_)); refine wpAny_bind (wpAny_isInstance (T := "StopIteration") (b := true) ⟨_, Heap.get?_push_size _ rfl, rfl⟩ isSubtype_stop (wpAny_pure (hQ _ (((Heap.SameBut.update ..).extBut.push _).push _))))
end
theorem a4G {P : Program} {w : World} {H : Hp} {h : Heap} {d : Addr} {o : Obj} {kvs : List (List Key × V)} (ok : HOk P w H h) (e : H d = some (.frz o (.dT kvs))) :
  h.get? d = some o ∧ o.ExactDict ∧ ∃ es ep, o.data = .dict es ep ∧ es.size = kvs.length ∧ ∀ (i : Nat) kv, kvs[i]? = some kv → ∃ en b, es[i]? = some en ∧ en.key = .ref b ∧ H b = some (.tup (kv.1.map kV)) ∧ RelV kv.2 en.val := by
 obtain ⟨g, z, y, xs, r, o', es, ep, h1, h2, h3, h4, h5⟩ := (show h.get? d = some o ∧ a0Q P w H h d (.dT kvs) from ok d _ e)
 rw [g] at h1
 obtain rfl := Option.some.inj h1
 refine ⟨g, h2, es, ep, h3, ?_, fun i kv hi => ?_⟩
 ·rw [← Array.length_toList, h4, List.length_map, Paired.length r]
 ·obtain ⟨q, e1, e2, e3, e4⟩ := a5c r hi
  exact ⟨entryOfKey (tupleKind (a0F P w)) q, q.2.1, by rw [← Array.getElem?_toList, h4, List.getElem?_map, e1]; rfl, rfl, e3, e4⟩
noncomputable def Iti (d : Addr) (o : Obj) : It :=
 ⟨fun i H => ∃ kvs kv, H d = some (.frz o (.dT kvs)) ∧ kvs[i]? = some kv, fun i H x H' => ∃ T y z, x = .ref T ∧ H T = none ∧ H' = upd H T (.tup [.ref y, z]) ∧ ∀ kvs kv, H d = some (.frz o (.dT kvs)) → kvs[i]? = some kv → H y = some (.tup (kv.1.map kV)) ∧ z = kv.2, fun i H => ∃ kvs, H d = some (.frz o (.dT kvs)) ∧ kvs.length ≤ i⟩
theorem Inv.turnNew1 {X : Cx} {pins : List (Addr × Obj)} {σ : St} {H : Hp} {s : Shared} {h' : Heap} {t' : Nat} {it T : Addr} {xs : List V} (I : Inv X pins σ H s) (fi : FpOk X pins H it)
  (k : ∀ b o, b ≠ it → s.heap.get? b = some o → h'.get? b = some o) (hT : s.heap.objs.size ≤ T) (new : a0Q X.prog X.w (upd H T (.tup xs)) h' T (.tup xs)) :
  Inv X pins σ (upd H T (.tup xs)) { s with heap := h', toks := t' } := I.turnNew fi fi (fun b o h1 _ q => k b o h1 q) hT new
theorem a9X {P : Program} {w : World} {K : PySem.W.Frag} {es' : List Expr} {x1} {tp : Pos} (d : Addr) (o : Obj) (it : Addr) : Turn P w K (.Tuple es' x1 tp) (Iti d o) [it] it (fun i h => ∃ es ep ok ov, o.data = .dict es ep ∧ IsItemIter h it d i es.size ep ok ov) where
 mem := by simp
 obj := fun i h st b hb => by
  have e : b = it := by simpa using hb
  subst e
  obtain ⟨_, _, _, _, _, e⟩ := st
  exact ⟨_, e, fun v z => by cases z⟩
 keep := fun i h h' st k => let ⟨es, ep, ok, ov, a, st⟩ := st; ⟨es, ep, ok, ov, a, k it (by simp) _ st⟩
 item := by
  intro X hP hw hK hc i pins s σ H E I hf st hg
  subst hP hw hK
  obtain ⟨kvs, kv, hq, hx⟩ := hg
  obtain ⟨es, ep, ok, ov, hdat, st⟩ := st
  obtain ⟨g, _, es', ep', hdat', hsz, hat⟩ := a4G I.hok hq
  rw [hdat] at hdat'
  obtain ⟨rfl, rfl⟩ : es = es' ∧ ep = ep' := by injection hdat' with a b; exact ⟨a, b⟩
  obtain ⟨en, b, h1, h2, h3, h4⟩ := hat i kv hx
  have fi := hf it (by simp)
  refine a7B st g hdat h1 fun h1' ho hT hsz' hk => ?_
  refine ⟨_, rfl, wpAny_letOwnedTupleGo_items ho fun h2' he2 hs2 => ?_⟩
  have hil : it < s.heap.objs.size := Heap.lt_size st
  have neT : s.heap.objs.size ≠ it := Nat.ne_of_gt hil
  have k2 : ∀ b o, b ≠ it → s.heap.get? b = some o → h2'.get? b = some o := fun b o h3 q => (hs2.2 b h3).trans (hk b o h3 q)
  have hT2 : h2'.get? s.heap.objs.size = some { cls := .type "tuple", data := .seq #[en.key, en.val] } := (hs2.2 _ neT).trans hT
  have hn : H s.heap.objs.size = none := I.hok.fresh (Nat.le_refl _)
  have I2 : Inv X pins σ (upd H s.heap.objs.size (.tup [.ref b, kv.2])) { s with heap := h2' } := I.turnNew1 (t' := s.toks) fi k2 (Nat.le_refl _)
   ⟨by simp only [List.length_cons, List.length_nil]; rw [sizeLine_eq]; decide, [en.key, en.val], .cons (by rw [h2]; exact rfl) (.cons h4 .nil), _, hT2, rfl, rfl, _, rfl⟩
  refine ⟨.ref s.heap.objs.size, _, I2, rfl, ⟨_, b, kv.2, rfl, hn, rfl, fun kvs2 kv2 q2 x2 => ?_⟩, ⟨es, ep, _, _, hdat, he2⟩, fun c hc => ?_⟩
  ·rw [hq] at q2
   cases q2
   rw [hx] at x2
   cases x2
   exact ⟨h3, rfl⟩
  ·have e : c = it := by simpa using hc
   subst e
   rw [a0n neT.symm]
   exact fi.1
 done := by
  intro X hP hw hK hc i pins s σ H E I hf st hg
  subst hP hw hK
  obtain ⟨kvs, hq, hx⟩ := hg
  obtain ⟨es, ep, ok, ov, hdat, st⟩ := st
  obtain ⟨g, _, es', ep', hdat', hsz, hat⟩ := a4G I.hok hq
  rw [hdat] at hdat'
  obtain ⟨rfl, rfl⟩ : es = es' ∧ ep = ep' := by injection hdat' with a b; exact ⟨a, b⟩
  obtain ⟨f0, f1, f2, f3, f4, f5⟩ := hf it (by simp)
  exact a7A (I.ok.hd hc) st g hdat (by lia) fun h' eb => ⟨rfl, I.turned (t' := s.toks) (fun b o hb e => eb b o hb e) f0 f1 f3 f4 f5⟩
 self := fun A i s Q E st h => by
  obtain ⟨es, ep, ok, ov, hdat, st⟩ := st
  exact PySem.W.kcp_self st h
noncomputable def prTs (D : List (List Int × T)) : List T := D.map fun d => .tup [.dic d.1 [], d.2]
theorem a3Y (D : List (List Int × T)) : (prTs D).length = D.length := List.length_map ..
theorem a9B {κ : Type} {K : PySem.W.Frag} {H : Hp} : ∀ {xs : List (κ × V)} {kvs : List (κ × T)} {i : Nat} {kv : κ × T}, KRep K H xs kvs → kvs[i]? = some kv → ∃ x, xs[i]? = some x ∧ x.1 = kv.1 ∧ Rep K H x.2 kv.2
 | [], [], _, _, _, e => by simp at e
 | p :: r, q :: u, 0, kv, h, e => by simp at e; subst e; exact ⟨p, rfl, h.1, h.2.1⟩
 | p :: r, q :: u, i + 1, kv, h, e => by
   obtain ⟨x, a, b⟩ := a9B (i := i) h.2.2 (by simpa using e)
   exact ⟨x, by simpa using a, b⟩
 | [], q :: u, _, _, h, _ => h.elim
 | p :: r, [], _, _, h, _ => h.elim
theorem b0r {K : PySem.W.Frag} {H : Hp} {d : Addr} {o : Obj} {D : List (List Int × T)} {xs : List (List Key × V)} (g : H d = some (.frz o (.dT xs))) (r : KRep K H xs (dtI D)) : ItOk K H (Iti d o) ⟨prTs D, fun _ => True⟩ := by
 have hl := r.length
 unfold dtI at hl
 rw [List.length_map] at hl
 refine ⟨fun H' M' k hh _ => ⟨xs, k.frz _ _ _ g, ?_⟩, fun i x H' M' e k hh _ => ?_⟩
 ·show xs.length ≤ (prTs D).length
  rw [a3Y, hl]; exact Nat.le_refl _
 ·unfold prTs at e
  rw [List.getElem?_map] at e
  obtain ⟨dv, e1, rfl⟩ := Option.map_eq_some_iff.mp e
  obtain ⟨xv, e2, e3, e4⟩ := a9B (i := i) (kv := (kyI dv.1, dv.2)) r (by unfold dtI; rw [List.getElem?_map, e1]; rfl)
  refine ⟨⟨xs, xv, k.frz _ _ _ g, e2⟩, fun v H'' y => ?_⟩
  obtain ⟨T0, y1, z1, rfl, hn, rfl, hy⟩ := y
  obtain ⟨hb, rfl⟩ := hy xs xv (k.frz _ _ _ g) e2
  rw [e3, a7t] at hb
  refine ⟨Kp.new hn, hh.keep hn, a1O (SqT.of a0u) ?_⟩
  unfold Reps
  refine ⟨_, _, rfl, a8q ((Kp.new (K := K) hn).tr _ _ hb), ?_⟩
  unfold Reps
  refine ⟨_, _, rfl, Rep.kp (k.trans (Kp.new hn)) _ _ e4, ?_⟩
  unfold Reps
  rfl
noncomputable def b4f (tl : TE3) : TI3 := fun ρ M R => tl ρ M fun x M1 => match x with
 | .adr p => (match M1 p with | some (.dt kvs) => ∃ D, kvs = dtI D ∧ R ⟨prTs D, fun _ => True⟩ (updM M1 p (.fz kvs)) | _ => False)
 | _ => False
section
variable {X : Cx}
theorem b1T {es0 : List Expr} {x0} {tp : Pos} {l : Expr} {tl : TE3} {apos cpos : Pos} (hl : HE X l tl) (hbase : attributeBase l "items" X.env (eval l X.env) = eval l X.env := by rfl) (hline : (apos.endLine == cpos.line) = true := by rfl) :
  HI X (.Tuple es0 x0 tp) (.Call (.Attribute l "items" apos) [] [] cpos) (b4f tl) := by
 intro ρ M R h pins s σ H R2 I b
 obtain ⟨hr, hh, en⟩ := b
 refine wpAny_Call_method0_late hbase hline (thn (hl ρ M _ h pins s σ H (fun v H1 => ∃ t M1, Kp X.K H H1 ∧ HR X.K H1 M1 ∧ Rep X.K H1 v t ∧ (match t with
  | .adr p => (match M1 p with | some (.dt kvs) => ∃ D, kvs = dtI D ∧ R ⟨prTs D, fun _ => True⟩ (updM M1 p (.fz kvs)) | _ => False)
  | _ => False)) I ⟨hr, hh, fun t v M1 H1 k1 h1 r1 q1 => ⟨t, M1, k1, h1, r1, q1⟩⟩) fun v s1 ⟨x, H1, I1, rv, t, M1, k1, h1, r1, q1⟩ => ?_)
 split at q1
 ·rename_i a
  obtain rfl := a0A r1
  cases rv
  split at q1
  ·rename_i kvs e0
   obtain ⟨D, rfl, q1⟩ := q1
   obtain ⟨xs, g1, g2⟩ := h1 _ _ e0
   obtain ⟨hT, hnd, hsm⟩ := b1Q I1 (a := a) (.inr ⟨xs, .inl g1⟩)
   refine ⟨"dict", "dict.items", PySem.F.plainAttrs_dict, PySem.F.slot_dict_items, PySem.F.type_dict_items, hT, hnd, Calls.callWith_builtin rfl (PySem.evalArgs_none (a7z hT hsm ?_))⟩
   have Iv : Inv X pins σ H1 { s1 with heap := s1.heap.push { cls := .type "dict_items", data := .fields #[.ref a] } } := I1.kept (t' := s1.toks) fun b o e => Heap.get?_push_of_some _ e
   have hv : ({ s1 with heap := s1.heap.push { cls := .type "dict_items", data := .fields #[.ref a] } } : Shared).heap.IsItemsView s1.heap.objs.size a := ⟨_, Heap.get?_push_size _ rfl, rfl, rfl⟩
   generalize ({ s1 with heap := s1.heap.push { cls := .type "dict_items", data := .fields #[.ref a] } } : Shared) = s2 at Iv hv ⊢
   obtain ⟨z, y, xs2, r, o, es, ep, h1', h2, h3, h4, h5⟩ := (show a0Q X.prog X.w H1 s2.heap a (.dT xs) from Iv.hok a _ g1)
   have kd := Kp.dict (K := X.K) (u := .frz o (.dT xs)) g1 (.inr ⟨_, rfl⟩)
   have I2 : Inv X pins σ (upd H1 a (.frz o (.dT xs))) s2 := Iv.write (t' := s2.toks) (by rw [g1]; trivial) (.inl rfl) (fun b u _ e => e) ⟨o, h1'⟩
    ⟨h1', z, y, xs2, Paired.mapP r fun p q w => ⟨w.1, by rw [a0n (b5p w.2.1 g1 (by intro z; cases z))]; exact w.2.1, w.2.2⟩, o, es, ep, h1', h2, h3, h4, h5⟩
   have gr : KRep X.K (upd H1 a (.frz o (.dT xs))) xs (dtI D) := g2.kp kd
   refine a6G hv h1' h3 ?_
   refine ⟨s2.heap.objs.size, [s2.heap.objs.size], _, _, _, rfl, I2.kept (t' := s2.toks) fun b o e => Heap.get?_push_of_some _ e, a9X a o _, ⟨es, ep, _, _, h3, Heap.get?_push_size _ rfl⟩, fun b hb => ?_, en ⟨prTs D, fun _ => True⟩ _ (updM M1 a (.fz (dtI D))) _ (k1.trans kd) (fun c u ec => ?_) (b0r a0u gr) q1⟩
   ·have e : b = s2.heap.objs.size := by simpa using hb
    subst e
    exact I2.fpOk (Nat.le_refl _) (I2.hok.fresh (Nat.le_refl _))
   ·by_cases hc : c = a
    ·subst hc
     rw [a0d] at ec; cases ec
     exact ⟨o, xs, a0u, gr⟩
    ·rw [a0o hc] at ec
     exact (h1 c u ec).kp kd fun u _ q => by rw [a0n hc]; exact q
  ·exact q1.elim
 ·exact q1.elim
end
noncomputable def rInK (f : Bool → Bool) : R3 := fun x y M Q => match y with
 | .adr p => (match M p with
   | some (.dk kvs) => ∃ kk, x = keyT kk ∧ Q (.bl (f (valT kvs kk).isSome)) M
   | _ => False)
 | _ => False
theorem b1K {κ : Type} [DecidableEq κ] {K : PySem.W.Frag} {H : Hp} {xs : List (κ × V)} {kvs : List (κ × T)} (h : KRep K H xs kvs) (k : κ) : (valV xs k).isSome = (valT kvs k).isSome := by
 have := h.val k
 cases e : valT kvs k with
 | none => rw [e] at this; rw [this]; rfl
 | some t => rw [e] at this; obtain ⟨v, e1, _⟩ := this; rw [e1]; rfl
noncomputable def b2g (kvs : List (Key × T)) (k : Key) : List (Key × T) := kvs.filter fun kv => decide (kv.1 ≠ k)
theorem a7u {K : PySem.W.Frag} {H : Hp} (k : Key) : ∀ {xs : List (Key × V)} {kvs : List (Key × T)}, KRep K H xs kvs → KRep K H (a7M xs k) (b2g kvs k)
 | [], [], _ => trivial
 | p :: r, q :: u, h => by
   have ih := a7u k h.2.2
   unfold a7M b2g at ih ⊢
   rw [List.filter_cons, List.filter_cons, h.1]
   by_cases c : q.1 = k
   ·rw [if_neg (by simpa using c), if_neg (by simpa using c)]; exact ih
   ·rw [if_pos (by simpa using c), if_pos (by simpa using c)]; exact ⟨h.1, h.2.1, ih⟩
 | [], q :: u, h => h.elim
 | p :: r, [], h => h.elim
noncomputable def b6i (td tk : TE3) : TE3 := fun ρ M Q => td ρ M fun x M1 => b0t M1 x ∧ tk ρ M1 fun k M2 => match x with
 | .adr p => (match M2 p with
   | some (.dk kvs) => ∃ kk t, k = keyT kk ∧ valT kvs kk = some t ∧ Q t (updM M2 p (.dk (b2g kvs kk)))
   | _ => False)
 | _ => False
section
variable {X : Cx}
theorem a5N (hu : X.A.units + 64 < cLine) : OpR3 X (compareOp .NotIn) (rInK not) := by
 intro pins s σ H x y v u Q2 I rx ry q
 obtain ⟨a, b, M, Q, r1, r2, hh, q, en⟩ := q
 unfold rInK at q
 split at q
 ·split at q
  ·rename_i kvs e
   obtain ⟨kk, rfl, q⟩ := q
   obtain rfl := a0A r2
   obtain rfl := a3y r1
   obtain ⟨xs, g1, g2⟩ := hh _ _ e
   cases ry
   refine b5M (by lia) I (DGet.k (k := kk) g1) rx fun s' I' => ⟨.bl _, H, I', rfl, en _ _ M H Kp.refl hh a2N ?_⟩
   rw [b1K g2 kk]; exact q
  ·exact q.elim
 ·exact q.elim
theorem b7z {o e : Expr} {td tk : TE3} {apos cpos : Pos} (ho : HE X o td) (he : HE X e tk) 
  (m1 : attributeBase o "pop" X.env (eval o X.env) = eval o X.env := by rfl)
  (m2 : ((backTo cpos (starEach [e] X.env)).all (fun x => !x.1) && (backToKw cpos (keywordEach [] X.env)).all (fun x => x.1.isSome)
   && decide (([e] : List Expr).length + ([] : List Keyword).length + (if ([] : List Keyword).isEmpty then 0 else 1) < 30)) = true := by rfl)
  (m3 : (apos.endLine == cpos.line) = true := by rfl) (m4 : backTo cpos (starEach [e] X.env) = [(false, eval e X.env)] := by rfl) : HE X (.Call (.Attribute o "pop" apos) [e] [] cpos) (b6i td tk) := fun ρ M Q h =>
 (b3d (ho.d (ρ := ρ)) (he.d (ρ := ρ)) ⟨m1, m2, m3, m4⟩).imp fun σ H Q2 ⟨hr, hh, en⟩ => ⟨M, _, h, hr, hh, fun x v M1 H1 k1 h1 r1 q1 => by
  obtain ⟨hd, q1⟩ := q1
  obtain ⟨a, rfl, isd⟩ := a6H h1 r1 hd
  refine ⟨a, rfl, isd, M1, _, q1, hr.kp k1, h1, fun y v2 M2 H2 k2 h2 r2 q2 => ?_⟩
  cases x with
  | adr p =>
    cases r1
    dsimp only at q2
    split at q2
    ·rename_i kvs e0
     obtain ⟨kk, t, rfl, ev, q2⟩ := q2
     obtain rfl := a3y r2
     obtain ⟨xs, g1, g2⟩ := h2 _ _ e0
     have hv := g2.val kk
     rw [ev] at hv
     obtain ⟨u, e1, e2⟩ := hv
     have kk' := Kp.dict (K := X.K) (u := .dK (a7M xs kk)) g1 (.inl ⟨_, rfl⟩)
     exact ⟨xs, kk, u, g1, rfl, e1, en _ _ _ _ ((k1.trans k2).trans kk') (h2.setK g1 (.inl ⟨_, rfl⟩) (a7u kk g2)) (Rep.kp kk' _ _ e2) q2⟩
    ·exact q2.elim
  | _ => exact hd.elim⟩
end
noncomputable abbrev Nst := List Nat
noncomputable def decN : Nat → Nat → Nst
 | 0, _ => []
 | k + 1, c => c % 16 :: decN k (c / 16)
noncomputable def codN : Nat → List Nat
 | 1 => [1]
 | 2 => [4146, 8961]
 | 3 => [2164035, 2311425, 4522275, 4530945, 213285]
 | 4 => [839939668, 843412993, 895512868, 1729110868, 895644673, 1732584193, 809857318, 1731219748, 358622068, 1731351553, 1164387073, 1732575523, 272966518, 1164378403]
 | 5 => [288317081445, 288390481665, 289491484965, 307107537765, 588964382565, 289493583105, 307180937985, 589037782785, 287853609255, 307141108005, 590138786085, 280901526405, 589501506405, 169668200805, 307143206145, 590140884225, 298089784065, 589574906625, 169741601025, 307180929315, 588500910375, 589535076645, 444680323365, 279263650695, 590138647365, 143462189445, 589537174785, 444682421505, 590143103745, 160650447105, 298089775395, 589574897955, 32302645545, 588500771655, 444680184645, 141824313735, 444684641025, 590143095075, 23211491625, 32302506825, 444684632355, 23211352905]
 | 6 => [92574005762166, 92575465379841, 92597359644966, 92947667886966, 98552599758966, 188231509710966, 92597393200641, 92949127504641, 98554059376641, 188232969328641, 92566875443496, 92948204777766, 98575953641766, 188254863593766, 92459920663446, 98561190011766, 188605171835766, 90748644182646, 188368953755766, 63368220489846, 92948238333441, 98575987197441, 188254897149441, 92803669041921, 98562649629441, 188606631453441, 90750103800321, 188370413373441, 63369680107521, 92949127495971, 98545469440296, 188224379392296, 98561726902566, 188605708726566, 96248618238246, 188392307638566, 63391574372646, 92429436461976, 98575953503046, 188117424612246, 188377544008566, 151367805379446, 90260896959126, 188605169616246, 55564264913526, 98561760458241, 188605742282241, 96248651793921, 188392341194241, 63391607928321, 98576020939521, 188461172990721, 188379003626241, 151369264997121, 90604645337601, 188606629233921, 55565724531201, 92803669033251, 98562649620771, 188606631444771, 88551080542506, 188361823437096, 63361090171176, 188378080899366, 151368342270246, 188606248599846, 61064238969126, 98545469301576, 188086940410776, 96248618099526, 188392307499846, 28207202247606, 90230412757656, 188117422392726, 151367803159926, 55076517690006, 188378114455041, 151368375825921, 188606282155521, 61064272524801, 96248685536001, 188392374936321, 116168317018881, 188461170771201, 151369262777601, 55420266068481, 98576020930851, 188461172982051, 188379003617571, 151369264988451, 88405622079786, 188606627135781, 53366701273386, 151368882143526, 88551080403786, 188361823298376, 28176718046136, 188606248461126, 25879866844086, 188086938191256, 28207200028086, 55046033488536, 151368915699201, 188606315897601, 113840981615361, 116168314799361, 96248685527331, 188392374927651, 116168317010211, 188461168673061, 151369260679461, 53221242810666, 88405621941066, 188606626997061, 18182329148346, 151368882004806, 28176715826616, 25879864624566, 151368949441281, 113840979395841, 188606315888931, 113840981606691, 116168312701221, 188461168534341, 151369260540741, 18036870685626, 18182326928826, 151368949432611, 113840977297701, 116168312562501, 18036868466106, 113840977158981]
 | _ => []
noncomputable def nsts (m : Nat) : List Nst := (codN m).map (decN (2 * m))
noncomputable def gN (N : Nst) (k : Nat) : Nat := N.getD k 0
noncomputable def plN (m : Nat) : Nst := (List.range m).map (· + m) ++ List.range m
noncomputable def mlN (N : Nst) (i : Nat) : Bool := gN N (N.length / 2 + i) == N.length / 2 + i - 1
noncomputable def hkN (N : Nst) (i : Nat) : Nst := (((N.set (gN N (N.length / 2 + i - 1)) (gN N (N.length / 2 + i))).set (gN N (N.length / 2 + i)) (gN N (N.length / 2 + i - 1))).set (N.length / 2 + i - 1) (N.length / 2 + i)).set (N.length / 2 + i) (N.length / 2 + i - 1)
noncomputable def stN (i : Nat) (s : Nat × Nst) : Nat × Nst := if mlN s.2 i then (s.1 + 1, s.2) else (s.1, hkN s.2 i)
noncomputable def insN (seen : List Nat) (k : Nat) : List Nat := if seen.contains k then seen else seen ++ [k]
noncomputable def wkN (N : Nst) : Nat → List Nat → Nat → List Nat
 | 0, seen, _ => seen
 | f + 1, seen, a => if seen.contains a then seen else wkN N f (insN (insN seen a) (gN N a)) ((gN N a + N.length / 2) % N.length)
noncomputable def lpS (N : Nst) : Nat → Nat → List Nat → Nat
 | 0, _, _ => 0
 | j + 1, b, seen => (if seen.contains b then 0 else 1) + lpS N j (b + 1) (wkN N (N.length + 1) seen b)
noncomputable def lpN (N : Nst) : Nat := lpS N (N.length / 2) 0 []
noncomputable def mtN (N : Nst) (i : Nat) : Bool := gN N i == i - 1
noncomputable def htN (N : Nst) (i : Nat) : Nst := (((N.set (gN N (i - 1)) (gN N i)).set (gN N i) (gN N (i - 1))).set (i - 1) i).set i (i - 1)
noncomputable def upN (i : Nat) (s : Nat × Nst) : Nat × Nst := if mtN s.2 i then (s.1 + 1, s.2) else (s.1, htN s.2 i)
noncomputable def hks (m : Nat) : List Nat := (List.range (m - 1)).map (· + 1)
noncomputable def ckA (m : Nat) : Bool := (nsts m).all fun N => N.length == 2 * m && (N.all (· < 2 * m)) && (hks m).all fun i => mlN N i || (mlN (hkN N i) i && (nsts m).contains (hkN N i))
theorem b5S : ckA 1 && ckA 2 && ckA 3 && ckA 4 && ckA 5 && ckA 6 = true := by decide +kernel
noncomputable def ckP (m : Nat) : Bool := (nsts m).contains (plN m)
theorem b5P : ckP 1 && ckP 2 && ckP 3 && ckP 4 && ckP 5 && ckP 6 = true := by decide +kernel
noncomputable def frN {α : Type} (n : Nat) (k : Nat → α) : α := match n with
 | 0 => k 0
 | p + 1 => k (p + 1)
theorem b4g {α : Type} (n : Nat) (k : Nat → α) : frN n k = k n := by cases n <;> rfl
noncomputable def encN (N : Nst) : Nat := N.foldr (fun x c => x + 16 * c) 0
noncomputable def fcN (l : Nat) (N : Nst) (k : Nst → Bool) : Bool := frN (encN N) fun c => N == decN l c && k (decN l c)
theorem a9E {l : Nat} {N : Nst} {k : Nst → Bool} (h : fcN l N k = true) : k N = true := by
 unfold fcN at h
 rw [b4g, Bool.and_eq_true, beq_iff_eq] at h
 rw [h.1]; exact h.2
noncomputable def ckT (l i : Nat) (N : Nst) : Bool := fcN l (stN i (0, N)).2 fun A => fcN l (upN i (0, N)).2 fun B => (upN i (0, N)).1 + lpN B == (stN i (0, N)).1 + lpN A
noncomputable def alT (m : Nat) : Bool := (nsts m).all fun N => decide (0 < lpN N) && (hks m).all fun i => ckT (2 * m) i N
theorem b5U : alT 1 && alT 2 && alT 3 && alT 4 && alT 5 && alT 6 = true := by decide +kernel
noncomputable abbrev NF := Nst → Lp
noncomputable def xL (k : Int) : Lp := toL [(k, 1)]
noncomputable def dlt : Lp := toL [(-2, -1), (2, -1)]
noncomputable def uF (i : Nat) (f : NF) : NF := fun N => if mlN N i then dlt * f N else f (hkN N i)
noncomputable def tF (l : Int) (f : NF) : NF := fun N => xL (sgI l) * f N + xL (-(sgI l)) * uF l.natAbs f N
noncomputable def phi : List Int → NF → NF
 | [], f => f
 | l :: w, f => tF l (phi w f)
noncomputable def trF : NF := fun N => powL dlt (lpN N - 1)
noncomputable def stS (n : Nat) (w : List Int) : Lp := phi w trF (plN n)
noncomputable def FU (f : NF) (s : Nat × Nst) : Lp := powL dlt s.1 * f s.2
theorem a9l (x : Lp) : ∀ a b : Nat, powL x (a + b) = powL x a * powL x b
 | a, 0 => by show powL x a = powL x a * 1; grind
 | a, b + 1 => by
   show powL x (a + b) * x = powL x a * (powL x b * x)
   rw [a9l x a b]; grind
theorem b3M (a b : Int) : xL (a + b) = xL a * xL b := by unfold xL; rw [b3p]; rfl
theorem xL_0 : xL 0 = 1 := rfl
theorem FU_u (f : NF) (i : Nat) (s : Nat × Nst) : FU (uF i f) s = FU f (stN i s) := by
 unfold FU uF stN
 by_cases h : mlN s.2 i = true
 ·rw [if_pos h, if_pos h]
  show _ = powL dlt s.1 * dlt * f s.2
  grind
 ·rw [if_neg h, if_neg h]
theorem FU_0 (f : NF) (N : Nst) : FU f (0, N) = f N := by show 1 * f N = f N; grind
noncomputable def Cm (m : Nat) : Prop := 1 ≤ m ∧ m ≤ 6
theorem Cm.cases {P : Nat → Prop} {m : Nat} (h : Cm m) (h1 : P 1) (h2 : P 2) (h3 : P 3) (h4 : P 4) (h5 : P 5) (h6 : P 6) : P m := by
 obtain ⟨a, b⟩ := h
 match m with
 | 0 => exact absurd a (by decide)
 | 1 => exact h1
 | 2 => exact h2
 | 3 => exact h3
 | 4 => exact h4
 | 5 => exact h5
 | 6 => exact h6
 | k + 7 => exact absurd b (by lia)
theorem Cm.all {c : Nat → Bool} {m : Nat} (h : Cm m) (hc : (c 1 && c 2 && c 3 && c 4 && c 5 && c 6) = true) : c m = true := by
 simp only [Bool.and_eq_true] at hc
 exact h.cases (P := fun m => c m = true) hc.1.1.1.1.1 hc.1.1.1.1.2 hc.1.1.1.2 hc.1.1.2 hc.1.2 hc.2
theorem b5q {m i : Nat} : i ∈ hks m ↔ 1 ≤ i ∧ i < m := by
 unfold hks
 rw [List.mem_map]
 constructor
 ·rintro ⟨k, hk, rfl⟩
  rw [List.mem_range] at hk
  lia
 ·rintro ⟨a, b⟩
  exact ⟨i - 1, List.mem_range.mpr (by lia), by lia⟩
section
variable {m : Nat} (hm : Cm m)
include hm
theorem b4a : plN m ∈ nsts m := List.contains_iff_mem.mp (hm.all b5P)
theorem a6B {N : Nst} (hN : N ∈ nsts m) : N.length = 2 * m ∧ (∀ x ∈ N, x < 2 * m) ∧ ∀ i, 1 ≤ i → i < m → mlN N i = false → mlN (hkN N i) i = true ∧ hkN N i ∈ nsts m := by
 have h := List.all_eq_true.mp (show (nsts m).all _ = true from hm.all b5S) N hN
 simp only [Bool.and_eq_true, beq_iff_eq, List.all_eq_true, decide_eq_true_eq, Bool.or_eq_true] at h
 refine ⟨h.1.1, h.1.2, fun i a b c => ?_⟩
 rcases h.2 i (b5q.mpr ⟨a, b⟩) with z | z
 ·rw [c] at z; cases z
 ·exact ⟨z.1, List.contains_iff_mem.mp z.2⟩
theorem b6x {N : Nst} (hN : N ∈ nsts m) {i k : Nat} (a : 1 ≤ i) (b : i < m) : (stN i (k, N)).2 ∈ nsts m := by
 unfold stN
 by_cases h : mlN N i = true
 ·rw [if_pos h]; exact hN
 ·rw [if_neg h]; exact ((a6B hm hN).2.2 i a b (by simpa using h)).2
end
noncomputable def LetN (m : Nat) (l : Int) : Prop := 1 ≤ l.natAbs ∧ l.natAbs < m
section
variable {m : Nat} (hm : Cm m)
include hm
end
noncomputable def dcN (l : List Nat) : Nat := ((List.range 64).filter fun x => decide (x ∈ l)).length
noncomputable def asO (mk : List Nat) (a b : Nat) : List Nat := mk.map fun m => if m = mk.getD b 0 then mk.getD a 0 else m
noncomputable def stH (i : Nat) (s : List Nat × List Nat) : List Nat × List Nat := (asO s.1 (s.2.getD (i - 1) 0) (s.2.getD i 0) ++ [s.1.length], (s.2.set (i - 1) s.1.length).set i s.1.length)
noncomputable def hkS (n : Nat) (h : List Nat) : List Nat × List Nat := h.foldl (fun s i => stH i s) (List.range n, List.range n)
noncomputable def clS (n : Nat) (s : List Nat × List Nat) : List Nat := (List.range n).foldl (fun mk p => asO mk p (s.2.getD p 0)) s.1
noncomputable def lpH (n : Nat) (h : List Nat) : Nat := dcN (clS n (hkS n h))
noncomputable def hkN' (n : Nat) (h : List Nat) : Nat × Nst := h.foldl (fun s i => stN i s) (0, plN n)
theorem a1P (mk : List Nat) (a b : Nat) : (asO mk a b).length = mk.length := List.length_map ..
theorem a4D (mk : List Nat) (a b j : Nat) (h : j < mk.length) : (asO mk a b).getD j 0 = if mk.getD j 0 = mk.getD b 0 then mk.getD a 0 else mk.getD j 0 := by
 unfold asO
 rw [List.getD_eq_getElem?_getD, List.getElem?_map, List.getElem?_eq_getElem h, List.getD_eq_getElem?_getD (l := mk) (i := j), List.getElem?_eq_getElem h]
 rfl
theorem a3b {l : List Nat} {j : Nat} (h : j < l.length) : l.getD j 0 ∈ l := by
 rw [List.getD_eq_getElem?_getD, List.getElem?_eq_getElem h]; exact List.getElem_mem h
theorem b1Z : ∀ {l : List Nat} {y : Nat}, l.Nodup → y ∈ l → (l.filter fun x => decide (x ≠ y)).length + 1 = l.length
 | [], _, _, h => nomatch h
 | x :: l, y, hn, h => by
   obtain ⟨h1, h2⟩ := List.nodup_cons.mp hn
   by_cases e : x = y
   ·subst e
    rw [List.filter_cons, if_neg (by simp), List.filter_eq_self.mpr (fun z hz => by simp; exact fun e => h1 (e ▸ hz)), List.length_cons]
   ·rw [List.filter_cons, if_pos (by simpa using e), List.length_cons, List.length_cons, b1Z h2 ((List.mem_cons.mp h).resolve_left (fun z => e z.symm))]
theorem b2j {mk : List Nat} {a b : Nat} (ha : a < mk.length) (hb : b < mk.length) (h64 : ∀ x ∈ mk, x < 64) : dcN (asO mk a b) + (if mk.getD a 0 = mk.getD b 0 then 0 else 1) = dcN mk := by
 by_cases e : mk.getD a 0 = mk.getD b 0
 ·rw [if_pos e]
  have : asO mk a b = mk := by
   unfold asO
   rw [e]
   conv => rhs; rw [← List.map_id mk]
   refine List.map_congr_left fun m _ => ?_
   by_cases c : m = mk.getD b 0
   ·rw [if_pos c, c]; rfl
   ·rw [if_neg c]; rfl
  rw [this]; rfl
 ·rw [if_neg e]
  unfold dcN
  have key : ((List.range 64).filter fun x => decide (x ∈ asO mk a b)) = ((List.range 64).filter fun x => decide (x ∈ mk)).filter fun x => decide (x ≠ mk.getD b 0) := by
   rw [List.filter_filter]
   refine List.filter_congr fun x _ => ?_
   have : x ∈ asO mk a b ↔ x ≠ mk.getD b 0 ∧ x ∈ mk := by
    unfold asO
    rw [List.mem_map]
    constructor
    ·rintro ⟨m, hm, rfl⟩
     by_cases c : m = mk.getD b 0
     ·rw [if_pos c]; exact ⟨e, a3b ha⟩
     ·rw [if_neg c]; exact ⟨c, hm⟩
    ·rintro ⟨c, hm⟩
     exact ⟨x, hm, if_neg c⟩
   rw [← Bool.decide_and]
   exact decide_eq_decide.mpr this
  rw [key]
  exact b1Z (List.nodup_range.filter _) (List.mem_filter.mpr ⟨List.mem_range.mpr (h64 _ (a3b hb)), decide_eq_true (a3b hb)⟩)
theorem b5L {mk : List Nat} {m : Nat} (h : m ∉ mk) (h64 : m < 64) : dcN (mk ++ [m]) = dcN mk + 1 := by
 unfold dcN
 have key : ((List.range 64).filter fun x => decide (x ∈ mk)) = ((List.range 64).filter fun x => decide (x ∈ mk ++ [m])).filter fun x => decide (x ≠ m) := by
  rw [List.filter_filter]
  refine List.filter_congr fun x _ => ?_
  by_cases c1 : x ∈ mk <;> by_cases c2 : x = m
  ·exact absurd (c2 ▸ c1) h
  ·simp [c1, c2]
  ·subst c2; simp [c1]
  ·simp [c1, c2]
 have := b1Z (l := (List.range 64).filter fun x => decide (x ∈ mk ++ [m])) (y := m) (List.nodup_range.filter _) (List.mem_filter.mpr ⟨List.mem_range.mpr h64, by simp⟩)
 rw [key]; lia
noncomputable def ckI (m : Nat) : Bool := (nsts m).all fun N => (List.range (2 * m)).all fun p => decide (gN N p < 2 * m) && (gN N (gN N p) == p) && (gN N p != p)
theorem b5R : ckI 1 && ckI 2 && ckI 3 && ckI 4 && ckI 5 && ckI 6 = true := by decide +kernel
noncomputable def caN (m : Nat) (N : Nst) : List Nat := (List.range (2 * m)).map fun p => min p (gN N p)
noncomputable def caF (m : Nat) : Nat → Nat → List Nat → (List Nat → Bool) → Bool
 | 0, _, mk, k => k mk
 | j + 1, p, mk, k => fcN (2 * m) (asO mk p (m + p)) fun mk' => caF m j (p + 1) mk' k
noncomputable def ckL (m : Nat) : Bool := (nsts m).all fun N => fcN (2 * m) (caN m N) fun c => (dcN c == m) && caF m m 0 c fun d => dcN d == lpN N
theorem b5Q : ckL 1 && ckL 2 && ckL 3 && ckL 4 && ckL 5 && ckL 6 = true := by decide +kernel
noncomputable def ckS0 (n : Nat) : Bool := dcN (List.range n) == n && (List.range (2 * n)).all fun p => (List.range (2 * n)).all fun q => ((if p < n then p else p - n) == (if q < n then q else q - n)) == (p == q || gN (plN n) p == q)
theorem b3I : ckS0 1 && ckS0 2 && ckS0 3 && ckS0 4 && ckS0 5 && ckS0 6 = true := by decide +kernel
theorem b3i {m : Nat} {g lb : Nat → Nat} {p1 p2 L : Nat} (h1 : p1 < m) (h2 : p2 < m) (h12 : p1 ≠ p2) (hg : ∀ p, p < m → g p < m) (hgg : ∀ p, p < m → g (g p) = p) (hgn : ∀ p, p < m → g p ≠ p) (hL : ∀ p, p < m → lb p ≠ L)
  (pat : ∀ p q, p < m → q < m → (lb p = lb q ↔ (p = q ∨ g p = q))) :
  ∀ p q, p < m → q < m → ((if p = p1 ∨ p = p2 then L else if lb p = lb p2 then lb p1 else lb p) = (if q = p1 ∨ q = p2 then L else if lb q = lb p2 then lb p1 else lb q) ↔
    (p = q ∨ (if g p1 = p2 then g p else if p = p1 then p2 else if p = p2 then p1 else if p = g p1 then g p2 else if p = g p2 then g p1 else g p) = q)) := by
 intro p q hp hq
 have a1 := pat p q hp hq
 have a2 := pat p p1 hp h1
 have a3 := pat p p2 hp h2
 have a4 := pat q p1 hq h1
 have a5 := pat q p2 hq h2
 have a6 := pat p1 p2 h1 h2
 have b1 := hgg p hp
 have b2 := hgg q hq
 have b3 := hgg p1 h1
 have b4 := hgg p2 h2
 have c1 := hgn p hp
 have c2 := hgn q hq
 have c3 := hgn p1 h1
 have c4 := hgn p2 h2
 have d1 := hL p hp
 have d2 := hL q hq
 have d3 := hL p1 h1
 have d4 := hL p2 h2
 have e1 := pat p1 p h1 hp
 have e2 := pat p2 p h2 hp
 have e3 := pat p1 q h1 hq
 have e4 := pat p2 q h2 hq
 clear pat hg hgg hgn hL
 grind
theorem b1q {m : Nat} {lb cl : Nat → Nat} {x y : Nat} (hx : x < m) (hy : y < m) (pat : ∀ p q, p < m → q < m → (lb p = lb q ↔ cl p = cl q)) :
  ∀ p q, p < m → q < m → ((if lb p = lb y then lb x else lb p) = (if lb q = lb y then lb x else lb q) ↔ (if cl p = cl y then cl x else cl p) = (if cl q = cl y then cl x else cl q)) := by
 intro p q hp hq
 have a1 := pat p q hp hq
 have a2 := pat p x hp hx
 have a3 := pat p y hp hy
 have a4 := pat q x hq hx
 have a5 := pat q y hq hy
 have a6 := pat x y hx hy
 have a7 := pat x p hx hp
 have a8 := pat x q hx hq
 clear pat
 grind
noncomputable def lbN (n : Nat) (mk sd : List Nat) (p : Nat) : Nat := if p < n then mk.getD p 0 else mk.getD (sd.getD (p - n) 0) 0
structure MI (n k : Nat) (mk sd : List Nat) (N : Nst) : Prop where
 sl : sd.length = n
 ml : n ≤ mk.length
 sb : ∀ j, j < n → sd.getD j 0 < mk.length
 mb : ∀ x ∈ mk, x < mk.length
 pat : ∀ p q, p < 2 * n → q < 2 * n → (lbN n mk sd p = lbN n mk sd q ↔ (p = q ∨ gN N p = q))
 cnt : dcN mk = n + k
 nm : N ∈ nsts n
theorem a3C (l : List Nat) (i j x : Nat) : (l.set i x).getD j 0 = if i = j ∧ j < l.length then x else l.getD j 0 := by
 rw [List.getD_eq_getElem?_getD, List.getElem?_set, List.getD_eq_getElem?_getD]
 by_cases h : i = j
 ·subst h
  by_cases h2 : i < l.length
  ·rw [if_pos rfl, if_pos h2, if_pos ⟨rfl, h2⟩]; rfl
  ·rw [if_pos rfl, if_neg h2, if_neg (fun z => h2 z.2), List.getElem?_eq_none (by lia)]
 ·rw [if_neg h, if_neg (fun z => h z.1)]
theorem a4F {m : Nat} (hm : Cm m) {N : Nst} (hN : N ∈ nsts m) {p : Nat} (hp : p < 2 * m) : gN N p < 2 * m ∧ gN N (gN N p) = p ∧ gN N p ≠ p := by
 have h := List.all_eq_true.mp (List.all_eq_true.mp (show (nsts m).all _ = true from hm.all b5R) N hN) p (List.mem_range.mpr hp)
 simp only [Bool.and_eq_true, beq_iff_eq, decide_eq_true_eq, bne_iff_ne] at h
 exact ⟨h.1.1, h.1.2, h.2⟩
theorem b5B {n : Nat} {N : Nst} {i : Nat} (hl : N.length = 2 * n) (h1 : 1 ≤ i) (h2 : i < n) (ha : gN N (n + i - 1) < 2 * n) (hc : gN N (n + i) < 2 * n) (hac : gN N (n + i - 1) ≠ gN N (n + i)) (p : Nat) (hp : p < 2 * n) :
  gN (hkN N i) p = if p = n + i - 1 then n + i else if p = n + i then n + i - 1 else if p = gN N (n + i - 1) then gN N (n + i) else if p = gN N (n + i) then gN N (n + i - 1) else gN N p := by
 unfold hkN
 rw [show N.length / 2 = n by lia]
 conv => lhs; unfold gN
 simp only [a3C, List.length_set, hl]
 change (if n + i = p ∧ p < 2 * n then n + i - 1 else if n + i - 1 = p ∧ p < 2 * n then n + i else if gN N (n + i) = p ∧ p < 2 * n then gN N (n + i - 1) else if gN N (n + i - 1) = p ∧ p < 2 * n then gN N (n + i) else gN N p) = _
 by_cases e1 : p = n + i - 1
 ·rw [if_neg (by lia), if_pos ⟨e1.symm, hp⟩, if_pos e1]
 ·by_cases e2 : p = n + i
  ·rw [if_pos ⟨e2.symm, hp⟩, if_neg e1, if_pos e2]
  ·rw [if_neg (fun z => e2 z.1.symm), if_neg (fun z => e1 z.1.symm), if_neg e1, if_neg e2]
   by_cases e3 : p = gN N (n + i - 1)
   ·rw [if_neg (fun z => hac (e3.symm.trans z.1.symm)), if_pos ⟨e3.symm, hp⟩, if_pos e3]
   ·by_cases e4 : p = gN N (n + i)
    ·rw [if_pos ⟨e4.symm, hp⟩, if_neg e3, if_pos e4]
    ·rw [if_neg (fun z => e4 z.1.symm), if_neg (fun z => e3 z.1.symm), if_neg e3, if_neg e4]
theorem b4e {n : Nat} {mk sd : List Nat} (sl : sd.length = n) (ml : n ≤ mk.length) (sb : ∀ j, j < n → sd.getD j 0 < mk.length) {x y : Nat} (p : Nat) (hp : p < 2 * n) :
  lbN n (asO mk x y) sd p = if lbN n mk sd p = mk.getD y 0 then mk.getD x 0 else lbN n mk sd p := by
 unfold lbN
 by_cases c : p < n
 ·rw [if_pos c, if_pos c, a4D _ _ _ _ (by lia)]
 ·rw [if_neg c, if_neg c, a4D _ _ _ _ (sb _ (by lia))]
theorem a6R {mk : List Nat} {a b : Nat} (ha : a < mk.length) : ∀ x ∈ asO mk a b, x ∈ mk := fun x hx => by
 unfold asO at hx
 obtain ⟨m, hm, rfl⟩ := List.mem_map.mp hx
 split
 ·exact a3b ha
 ·exact hm
theorem MI.step {n k : Nat} {mk sd : List Nat} {N : Nst} (hn : Cm n) (h : MI n k mk sd N) {i : Nat} (h1 : 1 ≤ i) (h2 : i < n) (h64 : mk.length < 63) : MI n (stN i (k, N)).1 (stH i (mk, sd)).1 (stH i (mk, sd)).2 (stN i (k, N)).2 := by
 have hsa := h.sb (i - 1) (by lia)
 have hsb := h.sb i h2
 have hg : ∀ p, p < 2 * n → gN N p < 2 * n := fun p hp => (a4F hn h.nm hp).1
 have hgg : ∀ p, p < 2 * n → gN N (gN N p) = p := fun p hp => (a4F hn h.nm hp).2.1
 have hgn : ∀ p, p < 2 * n → gN N p ≠ p := fun p hp => (a4F hn h.nm hp).2.2
 have hl := (a6B hn h.nm).1
 have l1 : lbN n mk sd (n + i - 1) = mk.getD (sd.getD (i - 1) 0) 0 := by unfold lbN; rw [if_neg (by lia), show n + i - 1 - n = i - 1 by lia]
 have l2 : lbN n mk sd (n + i) = mk.getD (sd.getD i 0) 0 := by unfold lbN; rw [if_neg (by lia), show n + i - n = i by lia]
 have hL : ∀ p, p < 2 * n → lbN n mk sd p ≠ mk.length := fun p hp => by
  unfold lbN
  split
  ·exact Nat.ne_of_lt (h.mb _ (a3b (by have := h.ml; lia)))
  ·exact Nat.ne_of_lt (h.mb _ (a3b (h.sb _ (by lia))))
 have lbn : ∀ p, p < 2 * n → lbN n (stH i (mk, sd)).1 (stH i (mk, sd)).2 p = if p = n + i - 1 ∨ p = n + i then mk.length else if lbN n mk sd p = lbN n mk sd (n + i) then lbN n mk sd (n + i - 1) else lbN n mk sd p := fun p hp => by
  rw [l1, l2]
  have sn : ∀ j, j < mk.length → (asO mk (sd.getD (i - 1) 0) (sd.getD i 0) ++ [mk.length]).getD j 0 = (asO mk (sd.getD (i - 1) 0) (sd.getD i 0)).getD j 0 := fun j hj => by
   rw [List.getD_eq_getElem?_getD, List.getElem?_append_left (by rw [a1P]; exact hj), ← List.getD_eq_getElem?_getD]
  have sl : (asO mk (sd.getD (i - 1) 0) (sd.getD i 0) ++ [mk.length]).getD mk.length 0 = mk.length := by
   rw [List.getD_eq_getElem?_getD, List.getElem?_append_right (by rw [a1P]; exact Nat.le_refl _), a1P, Nat.sub_self]; rfl
  show (if p < n then (asO mk (sd.getD (i - 1) 0) (sd.getD i 0) ++ [mk.length]).getD p 0 else (asO mk (sd.getD (i - 1) 0) (sd.getD i 0) ++ [mk.length]).getD (((sd.set (i - 1) mk.length).set i mk.length).getD (p - n) 0) 0) = _
  have hs := h.sl
  have hm := h.ml
  by_cases c : p < n
  ·rw [if_pos c, if_neg (by lia), sn p (by lia), a4D _ _ _ _ (by lia)]
   unfold lbN
   rw [if_pos c]
  ·rw [if_neg c, a3C, a3C, List.length_set, hs]
   by_cases c1 : p = n + i - 1
   ·rw [if_neg (by lia), if_pos (by lia), if_pos (.inl c1), sl]
   ·by_cases c2 : p = n + i
    ·rw [if_pos (by lia), if_pos (.inr c2), sl]
    ·rw [if_neg (by lia), if_neg (by lia), if_neg (by lia), sn _ (h.sb _ (by lia)), a4D _ _ _ _ (h.sb _ (by lia))]
     unfold lbN
     rw [if_neg c]
 have hml : mlN N i = true ↔ gN N (n + i - 1) = n + i := by
  unfold mlN
  rw [beq_iff_eq, show N.length / 2 = n by lia]
  constructor
  ·intro e; have y := hgg (n + i) (by lia); rw [e] at y; exact y
  ·intro e; have y := hgg (n + i - 1) (by lia); rw [e] at y; exact y
 have gn : ∀ p, p < 2 * n → gN (stN i (k, N)).2 p = if gN N (n + i - 1) = n + i then gN N p else if p = n + i - 1 then n + i else if p = n + i then n + i - 1 else if p = gN N (n + i - 1) then gN N (n + i) else if p = gN N (n + i) then gN N (n + i - 1) else gN N p := fun p hp => by
  unfold stN
  by_cases c : mlN N i = true
  ·rw [if_pos c, if_pos (hml.mp c)]
  ·rw [if_neg c, if_neg (fun z => c (hml.mpr z))]
   refine b5B hl h1 h2 (hg _ (by lia)) (hg _ (by lia)) (fun z => ?_) p hp
   have := hgg (n + i - 1) (by lia)
   rw [z, hgg (n + i) (by lia)] at this
   lia
 have hlen : (stH i (mk, sd)).1.length = mk.length + 1 := by show (asO _ _ _ ++ [_]).length = _; rw [List.length_append, a1P]; rfl
 have hmem : ∀ x ∈ asO mk (sd.getD (i - 1) 0) (sd.getD i 0), x < mk.length := fun x hx => h.mb x (a6R hsa x hx)
 refine ⟨?_, ?_, ?_, ?_, ?_, ?_, b6x hn h.nm h1 h2⟩
 ·show ((sd.set (i - 1) mk.length).set i mk.length).length = n
  rw [List.length_set, List.length_set]; exact h.sl
 ·rw [hlen]; have := h.ml; lia
 ·intro j hj
  rw [hlen]
  show ((sd.set (i - 1) mk.length).set i mk.length).getD j 0 < _
  rw [a3C, a3C]
  have := h.sb j hj
  split
  ·lia
  ·split <;> lia
 ·intro x hx
  rw [hlen]
  have hx : x ∈ asO mk (sd.getD (i - 1) 0) (sd.getD i 0) ++ [mk.length] := hx
  rcases List.mem_append.mp hx with z | z
  ·have := hmem x z; lia
  ·rw [List.mem_singleton.mp z]; lia
 ·intro p q hp hq
  rw [lbn p hp, lbn q hq, gn p hp]
  exact b3i (by lia) (by lia) (by lia) hg hgg hgn hL h.pat p q hp hq
 ·show dcN (asO mk (sd.getD (i - 1) 0) (sd.getD i 0) ++ [mk.length]) = _
  rw [b5L (fun z => Nat.lt_irrefl _ (hmem _ z)) (by lia)]
  have e := b2j (mk := mk) hsa hsb fun x hx => by have := h.mb x hx; lia
  rw [h.cnt, ← l1, ← l2] at e
  have pp := h.pat (n + i - 1) (n + i) (by lia) (by lia)
  unfold stN
  by_cases c : mlN N i = true
  ·rw [if_pos c]
   rw [if_pos (pp.mpr (.inr (hml.mp c)))] at e
   show _ = n + (k + 1)
   lia
  ·rw [if_neg c]
   rw [if_neg (fun z => by rcases pp.mp z with y | y; · lia
                           ·exact c (hml.mpr y))] at e
   show _ = n + k
   lia
theorem MI.start {n : Nat} (hn : Cm n) : MI n 0 (List.range n) (List.range n) (plN n) := by
 have h : ckS0 n = true := hn.all b3I
 unfold ckS0 at h
 rw [Bool.and_eq_true, beq_iff_eq] at h
 have rg : ∀ j, j < n → (List.range n).getD j 0 = j := fun j hj => by rw [List.getD_eq_getElem?_getD, List.getElem?_range hj]; rfl
 have lb : ∀ p, p < 2 * n → lbN n (List.range n) (List.range n) p = if p < n then p else p - n := fun p hp => by
  unfold lbN
  split
  ·exact rg p (by lia)
  ·rw [rg (p - n) (by lia), rg (p - n) (by lia)]
 refine ⟨List.length_range, by rw [List.length_range]; exact Nat.le_refl _, fun j hj => by rw [rg j hj, List.length_range]; exact hj, fun x hx => by rw [List.length_range]; exact List.mem_range.mp hx, fun p q hp hq => ?_, h.1, b4a hn⟩
 have e := List.all_eq_true.mp (List.all_eq_true.mp h.2 p (List.mem_range.mpr hp)) q (List.mem_range.mpr hq)
 rw [lb p hp, lb q hq]
 rw [beq_iff_eq] at e
 constructor
 ·intro z
  rw [beq_iff_eq.mpr z] at e
  simpa using e.symm
 ·intro z
  have : (p == q || gN (plN n) p == q) = true := by simpa using z
  rw [this] at e
  exact beq_iff_eq.mp e
theorem a4O {n : Nat} (hn : Cm n) : ∀ (h : List Nat) {k : Nat} {mk sd : List Nat} {N : Nst}, (∀ i ∈ h, 1 ≤ i ∧ i < n) → MI n k mk sd N → mk.length + h.length < 64 →
  MI n (h.foldl (fun s i => stN i s) (k, N)).1 (h.foldl (fun s i => stH i s) (mk, sd)).1 (h.foldl (fun s i => stH i s) (mk, sd)).2 (h.foldl (fun s i => stN i s) (k, N)).2 ∧ (h.foldl (fun s i => stH i s) (mk, sd)).1.length = mk.length + h.length
 | [], k, mk, sd, N, _, h, _ => ⟨h, rfl⟩
 | i :: l, k, mk, sd, N, hi, h, hz => by
   obtain ⟨a, b⟩ := hi i (.head _)
   rw [List.length_cons] at hz
   have hs := h.step hn a b (by lia)
   have hl : (stH i (mk, sd)).1.length = mk.length + 1 := by show (asO _ _ _ ++ [_]).length = _; rw [List.length_append, a1P]; rfl
   obtain ⟨r1, r2⟩ := a4O hn l (fun x hx => hi x (.tail _ hx)) hs (by rw [hl]; lia)
   refine ⟨r1, ?_⟩
   rw [List.foldl_cons, List.length_cons]
   exact r2.trans (by rw [hl]; lia)
theorem a7S {n : Nat} {sd : List Nat} (sl : sd.length = n) : ∀ (l : List Nat) {mk c : List Nat}, (∀ p ∈ l, p < n) → n ≤ mk.length → (∀ j, j < n → sd.getD j 0 < mk.length) → (∀ x ∈ mk, x < 64) → c.length = 2 * n → (∀ x ∈ c, x < 64) →
  (∀ p q, p < 2 * n → q < 2 * n → (lbN n mk sd p = lbN n mk sd q ↔ c.getD p 0 = c.getD q 0)) →
  dcN (l.foldl (fun mk p => asO mk p (sd.getD p 0)) mk) + dcN c = dcN mk + dcN (l.foldl (fun mk p => asO mk p (n + p)) c)
 | [], mk, c, _, _, _, _, _, _, _ => rfl
 | p :: l, mk, c, hp, ml, sb, mb, cl, cb, pat => by
   have hpn := hp p (.head _)
   have lp : lbN n mk sd p = mk.getD p 0 := by unfold lbN; rw [if_pos hpn]
   have ly : lbN n mk sd (n + p) = mk.getD (sd.getD p 0) 0 := by unfold lbN; rw [if_neg (by lia), Nat.add_sub_cancel_left]
   have e1 := b2j (mk := mk) (a := p) (b := sd.getD p 0) (by lia) (sb p hpn) mb
   have e2 := b2j (mk := c) (a := p) (b := n + p) (by lia) (by lia) cb
   have pp := pat p (n + p) (by lia) (by lia)
   rw [lp, ly] at pp
   have ih := a7S sl l (mk := asO mk p (sd.getD p 0)) (c := asO c p (n + p)) (fun x hx => hp x (.tail _ hx)) (by rw [a1P]; exact ml) (fun j hj => by rw [a1P]; exact sb j hj)
    (fun x hx => mb x (a6R (by lia) x hx)) (by rw [a1P]; exact cl) (fun x hx => cb x (a6R (by lia) x hx)) (fun q r hq hr => by
     rw [b4e sl ml sb q hq, b4e sl ml sb r hr, a4D _ _ _ _ (by lia), a4D _ _ _ _ (by lia), ← lp, ← ly]
     exact b1q (x := p) (y := n + p) (by lia) (by lia) pat q r hq hr)
   rw [List.foldl_cons, List.foldl_cons]
   by_cases z : mk.getD p 0 = mk.getD (sd.getD p 0) 0
   ·rw [if_pos z] at e1
    rw [if_pos (pp.mp z)] at e2
    lia
   ·rw [if_neg z] at e1
    rw [if_neg (fun y => z (pp.mpr y))] at e2
    lia
theorem b4n {m : Nat} {k : List Nat → Bool} : ∀ (j p : Nat) (mk : List Nat), caF m j p mk k = true → k ((List.range' p j).foldl (fun mk p => asO mk p (m + p)) mk) = true
 | 0, p, mk, h => h
 | j + 1, p, mk, h => by
   have h := a9E (k := fun mk' => caF m j (p + 1) mk' k) h
   rw [List.range'_succ, List.foldl_cons]
   exact b4n j (p + 1) _ h
theorem b1H {n : Nat} (hn : Cm n) {h : List Nat} (hh : ∀ i ∈ h, 1 ≤ i ∧ i < n) (hz : h.length ≤ 50) : lpH n h = (hkN' n h).1 + lpN (hkN' n h).2 ∧ (hkN' n h).2 ∈ nsts n := by
 obtain ⟨M, hl⟩ := a4O hn h hh (MI.start hn) (by rw [List.length_range]; have := hn.2; lia)
 rw [List.length_range] at hl
 unfold lpH hkN' hkS
 generalize (h.foldl (fun s i => stN i s) (0, plN n)) = t at M ⊢
 generalize (h.foldl (fun s i => stH i s) (List.range n, List.range n)) = u at M hl ⊢
 refine ⟨?_, M.nm⟩
 have hc := a9E (List.all_eq_true.mp (show (nsts n).all _ = true from hn.all b5Q) t.2 M.nm)
 rw [Bool.and_eq_true, beq_iff_eq] at hc
 have hc2 := b4n _ _ _ hc.2
 rw [beq_iff_eq] at hc2
 have hn6 := hn.2
 have cg : ∀ p, p < 2 * n → (caN n t.2).getD p 0 = min p (gN t.2 p) := fun p hp => by
  unfold caN
  rw [List.getD_eq_getElem?_getD, List.getElem?_map, List.getElem?_range hp]; rfl
 have key := a7S M.sl (List.range n) (mk := u.1) (c := caN n t.2) (fun p hp => List.mem_range.mp hp) M.ml M.sb (fun x hx => by have := M.mb x hx; lia) (by unfold caN; rw [List.length_map, List.length_range])
  (fun x hx => by
   unfold caN at hx
   obtain ⟨p, hp, rfl⟩ := List.mem_map.mp hx
   have := List.mem_range.mp hp
   lia) (fun p q hp hq => by
   rw [M.pat p q hp hq, cg p hp, cg q hq]
   obtain ⟨_, a2, _⟩ := a4F hn M.nm hp
   obtain ⟨_, b2, _⟩ := a4F hn M.nm hq
   constructor
   ·rintro (e | e)
    ·rw [e]
    ·rw [← e, a2]; lia
   ·intro e
    by_cases c1 : p ≤ gN t.2 p <;> by_cases c2 : q ≤ gN t.2 q
    ·exact .inl (by lia)
    ·right; rw [show p = gN t.2 q by lia, b2]
    ·right; lia
    ·left; rw [← a2, ← b2, show gN t.2 p = gN t.2 q by lia])
 rw [hc.1, M.cnt, List.range_eq_range', hc2] at key
 unfold clS
 rw [List.range_eq_range']
 lia
noncomputable def EvB (b : Nat) (p : Po) : Prop := ∀ x ∈ p, x.1.natAbs ≤ b ∧ (x.1 - b) % 2 = 0
noncomputable def GdE (b : Nat) (p : Po) : Prop := CanP p ∧ EvB b p
noncomputable def stpE (b : Nat) : List Int := (List.range (b + 1)).map fun (i : Nat) => 2 * (i : Int) - b
theorem a4k (b : Nat) : (stpE b).length = b + 1 := by unfold stpE; rw [List.length_map, List.length_range]
theorem a3n {b : Nat} {x : Int} (h : x.natAbs ≤ b ∧ (x - b) % 2 = 0) : x ∈ stpE b := List.mem_map.mpr ⟨((x + b) / 2).toNat, List.mem_range.mpr (by lia), by show 2 * ((((x + b) / 2).toNat : Nat) : Int) - b = x; lia⟩
theorem EvB.norm {b : Nat} {p : Po} (h : EvB b p) : EvB b (norm p) := fun x hx => by
 obtain ⟨y, hy, e⟩ := a9r x hx
 rw [← e]; exact h y hy
theorem EvB.add {b : Nat} {p q : Po} (hp : EvB b p) (hq : EvB b q) : EvB b (addP p q) := EvB.norm fun x hx => (List.mem_append.mp hx).elim (hp x) (hq x)
theorem EvB.sum {a b : Nat} {p q : Po} (hp : EvB a p) (hq : EvB b q) {x y : Int × Int} (hx : x ∈ p) (hy : y ∈ q) : (x.1 + y.1).natAbs ≤ a + b ∧ (x.1 + y.1 - ((a + b : Nat) : Int)) % 2 = 0 := by
 obtain ⟨h1, h2⟩ := hp x hx
 obtain ⟨g1, g2⟩ := hq y hy
 exact ⟨by lia, by lia⟩
theorem EvB.mul {a b : Nat} {p q : Po} (hp : EvB a p) (hq : EvB b q) : EvB (a + b) (a1l p q) := EvB.norm fun x hx => by
 unfold rawM at hx
 obtain ⟨y, hy, hx⟩ := List.mem_flatMap.mp hx
 obtain ⟨z, hz, rfl⟩ := List.mem_map.mp hx
 exact hp.sum hq hy hz
theorem GdE.add {b : Nat} {p q : Po} (hp : GdE b p) (hq : GdE b q) : GdE b (addP p q) := ⟨a1G _, hp.2.add hq.2⟩
theorem GdE.mul {a b : Nat} {p q : Po} (hp : GdE a p) (hq : GdE b q) : GdE (a + b) (a1l p q) := ⟨a1G _, hp.2.mul hq.2⟩
theorem GdE.up {b : Nat} {p : Po} (h : GdE b p) (k : Nat) {c : Nat} (e : c = b + 2 * k) : GdE c p := ⟨h.1, fun x hx => by obtain ⟨h1, h2⟩ := h.2 x hx; subst e; exact ⟨by lia, by lia⟩⟩
theorem GdE.nil (b : Nat) : GdE b [] := ⟨⟨.nil, fun _ z => absurd z List.not_mem_nil⟩, fun _ z => absurd z List.not_mem_nil⟩
theorem GdE.one : GdE 0 [(0, 1)] := ⟨⟨by decide, by decide⟩, by unfold EvB; decide⟩
theorem GdE.mono1 {s : Int} (h : s = 1 ∨ s = -1) : GdE 1 [(s, 1)] := by
 rcases h with rfl | rfl
 ·exact ⟨⟨by decide, by decide⟩, by unfold EvB; decide⟩
 ·exact ⟨⟨by decide, by decide⟩, by unfold EvB; decide⟩
theorem GdE.monoM {s : Int} {b : Nat} (h : s.natAbs ≤ b ∧ (s - b) % 2 = 0) : GdE b [(s, 1)] := ⟨⟨List.pairwise_singleton _ _, fun x hx => by rw [List.mem_singleton.mp hx]; show (1 : Int) ≠ 0; decide⟩, fun x hx => by rw [List.mem_singleton.mp hx]; exact h⟩
theorem GdE.len {b : Nat} {p : Po} (h : GdE b p) : p.length ≤ b + 1 := by
 have hn : (p.map Prod.fst).Nodup := List.pairwise_map.mpr (h.1.1.imp fun h z => Int.ne_of_lt h z)
 have := List.Nodup.length_le_of_subset hn (l₂ := stpE b) fun k hk => by
  obtain ⟨x, hx, rfl⟩ := List.mem_map.mp hk
  exact a3n (h.2 x hx)
 rwa [List.length_map, a4k] at this
noncomputable def lpP : Po := [(-2, -1), (2, -1)]
theorem GdE.lp : GdE 2 lpP := ⟨⟨by decide, by decide⟩, by unfold EvB; decide⟩
theorem Sml.lp : Sml lpP := by unfold Sml; decide
theorem Sml.one1 (s : Int) : Sml [(s, 1)] := fun x hx => by rw [List.mem_singleton.mp hx]; show (1 : Int).natAbs < 2 ^ 64; decide
noncomputable def dP : Nat → Po
 | 0 => [(0, 1)]
 | i + 1 => a1l (dP i) lpP
theorem a4c : ∀ i, GdE (2 * i) (dP i)
 | 0 => GdE.one
 | i + 1 => (a4c i).mul GdE.lp
theorem b0G : ∀ i, toL (dP i) = powL dlt i
 | 0 => rfl
 | i + 1 => by
   show toL (a1l (dP i) lpP) = powL dlt i * dlt
   rw [a2x, b0G i]; rfl
theorem b7W : ∀ i, N1 (dP i) ≤ 2 ^ i
 | 0 => by decide
 | i + 1 => by
   have := b7W i
   have h2 := b5W (dP i) lpP
   have h3 : N1 lpP = 2 := rfl
   rw [h3] at h2
   rw [Nat.pow_succ]
   exact Nat.le_trans h2 (Nat.mul_le_mul_right 2 this)
theorem Sml.dP {i : Nat} (h : i ≤ 40) : Sml (dP i) := fun x hx => Nat.lt_of_le_of_lt (Nat.le_trans (b7V hx) (b7W i)) (Nat.pow_lt_pow_right (by decide) (by lia))
noncomputable def lwL (k : Nat) : List Po := [] :: (List.range k).map dP
theorem a9w (k : Nat) : lwL (k + 1) = lwL k ++ [dP k] := by unfold lwL; rw [List.range_succ, List.map_append]; rfl
theorem b1F (k : Nat) : (lwL k).length = k + 1 := by unfold lwL; rw [List.length_cons, List.length_map, List.length_range]
theorem b1G {k i : Nat} (h : i < k) : (lwL k)[i + 1]? = some (dP i) := by unfold lwL; rw [List.getElem?_cons_succ, List.getElem?_map, List.getElem?_range h]; rfl
theorem b4v {p : Po} (h : CanP p) : (toL p).1 = p := a3O (toL p).2 h fun c => by rw [co_L]
theorem b6Q {p : Po} {x : Lp} (h : CanP p) (e : toL p = x) : p = x.1 := by rw [← e, b4v h]
noncomputable abbrev St1 := Int × List Nat
noncomputable def stpS (l : Int) (S : List St1) : List St1 := S.map (fun s => (s.1 + sgI l, s.2)) ++ S.map (fun s => (s.1 - sgI l, s.2 ++ [l.natAbs]))
noncomputable def stsL (w : List Int) : List St1 := w.foldl (fun S l => stpS l S) [(0, [])]
noncomputable def VS (n : Nat) (f : NF) : List St1 → Lp
 | [] => 0
 | s :: S => xL s.1 * FU f (hkN' n s.2) + VS n f S
theorem a5x (n : Nat) (f : NF) : ∀ S R : List St1, VS n f (S ++ R) = VS n f S + VS n f R
 | [], R => by show VS n f R = 0 + VS n f R; grind
 | s :: S, R => by
   show _ + VS n f (S ++ R) = _ + VS n f S + VS n f R
   rw [a5x n f S R]; grind
theorem FU_t (l : Int) (f : NF) (s : Nat × Nst) : FU (tF l f) s = xL (sgI l) * FU f s + xL (-(sgI l)) * FU f (stN l.natAbs s) := by
 rw [← FU_u]
 unfold FU tF
 grind
theorem b3x (n : Nat) (h : List Nat) (i : Nat) : hkN' n (h ++ [i]) = stN i (hkN' n h) := by unfold hkN'; rw [List.foldl_append]; rfl
theorem b5V (n : Nat) (f : NF) (l : Int) : ∀ S : List St1, VS n f (stpS l S) = VS n (tF l f) S := fun S => by
 unfold stpS
 rw [a5x]
 induction S with
 | nil => show (0 : Lp) + 0 = 0; grind
 | cons s S ih =>
   show (xL (s.1 + sgI l) * FU f (hkN' n s.2) + VS n f (S.map fun s => (s.1 + sgI l, s.2))) + (xL (s.1 - sgI l) * FU f (hkN' n (s.2 ++ [l.natAbs])) + VS n f (S.map fun s => (s.1 - sgI l, s.2 ++ [l.natAbs]))) = xL s.1 * FU (tF l f) (hkN' n s.2) + VS n (tF l f) S
   rw [← ih, FU_t, b3x, b3M, show s.1 - sgI l = s.1 + -(sgI l) by lia, b3M]
   generalize VS n f (S.map fun s => (s.1 + sgI l, s.2)) = a
   generalize VS n f (S.map fun s => (s.1 + -(sgI l), s.2 ++ [l.natAbs])) = b
   grind
theorem b4p (n : Nat) : ∀ (w : List Int) (f : NF) (S : List St1), VS n f (w.foldl (fun S l => stpS l S) S) = VS n (phi w f) S
 | [], f, S => rfl
 | l :: w, f, S => by
   rw [List.foldl_cons, b4p n w f (stpS l S), b5V]; rfl
theorem b4o (n : Nat) (w : List Int) (f : NF) : VS n f (stsL w) = phi w f (plN n) := by
 unfold stsL
 rw [b4p]
 show xL 0 * FU (phi w f) (0, plN n) + 0 = _
 rw [FU_0, xL_0]; grind
theorem a7r {n : Nat} (hn : Cm n) {N : Nst} (hN : N ∈ nsts n) : 0 < lpN N := by
 have h := List.all_eq_true.mp (show (nsts n).all _ = true from hn.all b5U) N hN
 rw [Bool.and_eq_true, decide_eq_true_eq] at h
 exact h.1
theorem b7Y {n : Nat} (hn : Cm n) {s : Nat × Nst} (hN : s.2 ∈ nsts n) : FU trF s = powL dlt (s.1 + lpN s.2 - 1) := by
 have := a7r hn hN
 unfold FU trF
 rw [← a9l]
 congr 1
 lia
theorem b0N {w : List Int} : ∀ s ∈ stsL w, s.2.length ≤ w.length ∧ (∀ i ∈ s.2, ∃ l ∈ w, i = l.natAbs) ∧ s.1.natAbs ≤ w.length ∧ (s.1 - w.length) % 2 = 0 := by
 have key : ∀ (w : List Int) (S : List St1) (v : List Int), (∀ s ∈ S, s.2.length ≤ v.length ∧ (∀ i ∈ s.2, ∃ l ∈ v, i = l.natAbs) ∧ s.1.natAbs ≤ v.length ∧ (s.1 - v.length) % 2 = 0) → ∀ s ∈ w.foldl (fun S l => stpS l S) S, s.2.length ≤ (v ++ w).length ∧ (∀ i ∈ s.2, ∃ l ∈ v ++ w, i = l.natAbs) ∧ s.1.natAbs ≤ (v ++ w).length ∧ (s.1 - (v ++ w).length) % 2 = 0 := by
  intro w
  induction w with
  | nil => intro S v h s hs; rw [List.append_nil]; exact h s hs
  | cons l w ih =>
    intro S v h s hs
    have e : v ++ l :: w = (v ++ [l]) ++ w := by simp
    rw [e]
    refine ih (stpS l S) (v ++ [l]) (fun t ht => ?_) s hs
    rw [List.length_append, List.length_singleton]
    have hsg : sgI l = 1 ∨ sgI l = -1 := by unfold sgI; split <;> simp
    rcases List.mem_append.mp ht with z | z
    ·obtain ⟨u, hu, rfl⟩ := List.mem_map.mp z
     obtain ⟨a, b, c, d⟩ := h u hu
     exact ⟨by lia, fun i hi => by obtain ⟨x, hx, e⟩ := b i hi; exact ⟨x, List.mem_append.mpr (.inl hx), e⟩, by dsimp only; lia, by dsimp only; lia⟩
    ·obtain ⟨u, hu, rfl⟩ := List.mem_map.mp z
     obtain ⟨a, b, c, d⟩ := h u hu
     refine ⟨by dsimp only; rw [List.length_append, List.length_singleton]; lia, fun i hi => ?_, by dsimp only; lia, by dsimp only; lia⟩
     rcases List.mem_append.mp hi with y | y
     ·obtain ⟨x, hx, e⟩ := b i y; exact ⟨x, List.mem_append.mpr (.inl hx), e⟩
     ·exact ⟨l, by simp, List.mem_singleton.mp y⟩
 have := key w [(0, [])] [] (fun s hs => by rw [List.mem_singleton.mp hs]; exact ⟨Nat.le_refl _, fun i hi => absurd hi List.not_mem_nil, Nat.le_refl _, by decide⟩)
 rw [List.nil_append] at this
 exact this
theorem a8i (w : List Int) : (stsL w).length = 2 ^ w.length := by
 have key : ∀ (w : List Int) (S : List St1), (w.foldl (fun S l => stpS l S) S).length = S.length * 2 ^ w.length := by
  intro w
  induction w with
  | nil => intro S; rw [List.foldl_nil, List.length_nil, Nat.pow_zero, Nat.mul_one]
  | cons l w ih =>
    intro S
    rw [List.foldl_cons, ih, List.length_cons, Nat.pow_succ]
    unfold stpS
    rw [List.length_append, List.length_map, List.length_map, ← Nat.two_mul, Nat.mul_comm 2, Nat.mul_assoc, Nat.mul_comm 2]
 unfold stsL
 rw [key]; simp
noncomputable def sumS (n : Nat) : List St1 → Po → Po
 | [], a => a
 | s :: S, a => sumS n S (addP a (a1l [(s.1, 1)] (dP (lpH n s.2 - 1))))
theorem b0L {n : Nat} (hn : Cm n) : ∀ (S : List St1) (a : Po), (∀ s ∈ S, s.2.length ≤ 50 ∧ ∀ i ∈ s.2, 1 ≤ i ∧ i < n) → toL (sumS n S a) = toL a + VS n trF S
 | [], a, _ => by show toL a = toL a + 0; grind
 | s :: S, a, h => by
   obtain ⟨h1, h2⟩ := h s (.head _)
   obtain ⟨e1, e2⟩ := b1H hn h2 h1
   show toL (sumS n S _) = toL a + (xL s.1 * FU trF (hkN' n s.2) + VS n trF S)
   rw [b0L hn S _ fun x hx => h x (.tail _ hx), a6h, a2x, b0G, b7Y hn e2, ← e1]
   show toL a + xL s.1 * _ + _ = _
   grind
theorem a4T {n b : Nat} : ∀ (S : List St1) (a : Po), GdE b a → (∀ s ∈ S, ∃ c : Nat, b = c + 2 * (lpH n s.2 - 1) ∧ s.1.natAbs ≤ c ∧ (s.1 - c) % 2 = 0) → GdE b (sumS n S a)
 | [], a, h, _ => h
 | s :: S, a, h, hs => by
   obtain ⟨c, e, h1, h2⟩ := hs s (.head _)
   refine a4T S _ (h.add ?_) fun x hx => hs x (.tail _ hx)
   rw [e]
   exact (GdE.monoM ⟨h1, h2⟩).mul (a4c _)
noncomputable def nI (N : Nst) : List Int := List.map (fun (k : Nat) => (k : Int)) N
theorem a7q : ∀ {a b : Nst}, nI a = nI b → a = b
 | [], [], _ => rfl
 | x :: a, y :: b, h => by
   unfold nI at h
   rw [List.map_cons, List.map_cons] at h
   injection h with h1 h2
   rw [Int.ofNat.inj h1, a7q (a := a) (b := b) h2]
 | [], _ :: _, h => by unfold nI at h; rw [List.map_cons, List.map_nil] at h; cases h
 | _ :: _, [], h => by unfold nI at h; rw [List.map_cons, List.map_nil] at h; cases h
theorem a6F {a b : List Int} (h : kyI a = kyI b) : a = b := by
 unfold kyI at h
 exact List.map_inj_right (fun x y e => Sum.inl.inj e) |>.mp h
noncomputable abbrev DN := List (Nst × Po)
noncomputable def dtN (D : DN) : List (List Key × T) := D.map fun d => (kyI (nI d.1), poT d.2)
theorem b2e (D : DN) : dtN D = dtI (D.map fun d => (nI d.1, poT d.2)) := by unfold dtN dtI; rw [List.map_map]; rfl
theorem b5H (D : DN) : (dtN D).length = D.length := List.length_map ..
noncomputable def lkD : DN → Nst → Po
 | [], _ => []
 | d :: D, N => if d.1 = N then d.2 else lkD D N
noncomputable def setD : DN → Nst → Po → DN
 | [], N, p => [(N, p)]
 | d :: D, N, p => if d.1 = N then (N, p) :: D else d :: setD D N p
theorem a8W (N : Nst) : ∀ D : DN, (valT (dtN D) (kyI (nI N))).getD (T.tup []) = poT (lkD D N)
 | [] => rfl
 | d :: D => by
   have ih := a8W N D
   show (((((kyI (nI d.1), poT d.2) : List Key × T) :: dtN D).find? fun kv => decide (kv.1 = kyI (nI N))).map (·.2)).getD (T.tup []) = poT (if d.1 = N then d.2 else lkD D N)
   by_cases e : d.1 = N
   ·rw [if_pos e, List.find?_cons, decide_eq_true (show kyI (nI d.1) = kyI (nI N) by rw [e])]; rfl
   ·rw [if_neg e, List.find?_cons, decide_eq_false (fun z => e (a7q (a6F z)))]
    exact ih
theorem a6Z (N : Nst) (p : Po) : ∀ D : DN, (setD D N p).map Prod.fst = if N ∈ D.map Prod.fst then D.map Prod.fst else D.map Prod.fst ++ [N]
 | [] => rfl
 | d :: D => by
   show ((if d.1 = N then (N, p) :: D else d :: setD D N p).map Prod.fst) = _
   by_cases h : d.1 = N
   ·rw [if_pos h, if_pos (by rw [List.map_cons, h]; exact .head _), List.map_cons, List.map_cons, h]
   ·rw [if_neg h, List.map_cons, a6Z N p D, List.map_cons]
    by_cases g : N ∈ D.map Prod.fst
    ·rw [if_pos g, if_pos (.tail _ g)]
    ·rw [if_neg g, if_neg (fun z => (List.mem_cons.mp z).elim (fun e => h e.symm) g)]; rfl
theorem a9h {N : Nst} {p : Po} : ∀ {D : DN}, (D.map Prod.fst).Nodup → putT (dtN D) (kyI (nI N)) (poT p) = dtN (setD D N p)
 | [], _ => rfl
 | d :: D, h => by
   rw [List.map_cons, List.nodup_cons] at h
   have ih := a9h (N := N) (p := p) h.2
   show putT (((kyI (nI d.1), poT d.2) : List Key × T) :: dtN D) (kyI (nI N)) (poT p) = dtN (if d.1 = N then (N, p) :: D else d :: setD D N p)
   by_cases e : d.1 = N
   ·rw [if_pos e]
    unfold putT
    rw [if_pos (by rw [List.any_cons, decide_eq_true (show kyI (nI d.1) = kyI (nI N) by rw [e])]; rfl)]
    rw [List.map_cons, if_pos (show kyI (nI d.1) = kyI (nI N) by rw [e])]
    show _ = ((kyI (nI N), poT p) : List Key × T) :: dtN D
    rw [e]
    congr 1
    unfold dtN
    rw [List.map_map]
    refine List.map_congr_left fun y hy => ?_
    show (if kyI (nI y.1) = kyI (nI N) then (kyI (nI y.1), poT p) else (kyI (nI y.1), poT y.2)) = _
    rw [if_neg (fun z => h.1 (by rw [e, ← a7q (a6F z)]; exact List.mem_map.mpr ⟨y, hy, rfl⟩))]
   ·rw [if_neg e]
    show _ = ((kyI (nI d.1), poT d.2) : List Key × T) :: dtN (setD D N p)
    rw [← ih]
    unfold putT
    have e1 : decide (kyI (nI d.1) = kyI (nI N)) = false := decide_eq_false fun z => e (a7q (a6F z))
    rw [List.any_cons, e1, Bool.false_or]
    split
    ·rw [List.map_cons, if_neg (fun z => e (a7q (a6F z)))]
    ·rfl
noncomputable def DOK (m b : Nat) (D : DN) : Prop := (D.map Prod.fst).Nodup ∧ ∀ d ∈ D, d.1 ∈ nsts m ∧ GdE b d.2
theorem b7k (m : Nat) : (nsts m).length ≤ 132 := by
 unfold nsts
 rw [List.length_map]
 unfold codN
 split <;> decide
theorem DOK.len {m b : Nat} {D : DN} (h : DOK m b D) : D.length ≤ 132 := by
 have := List.Nodup.length_le_of_subset h.1 (l₂ := nsts m) fun N hN => by
  obtain ⟨d, hd, rfl⟩ := List.mem_map.mp hN
  exact (h.2 d hd).1
 rw [List.length_map] at this
 exact Nat.le_trans this (b7k m)
theorem a9y {m b : Nat} {D : DN} (h : ∀ d ∈ D, d.1 ∈ nsts m ∧ GdE b d.2) (N : Nst) : GdE b (lkD D N) := by
 induction D with
 | nil => exact GdE.nil b
 | cons d D ih =>
   show GdE b (if d.1 = N then d.2 else lkD D N)
   split
   ·exact (h d (.head _)).2
   ·exact ih fun x hx => h x (.tail _ hx)
theorem a9b {N : Nst} {p : Po} : ∀ {D : DN} {d : Nst × Po}, d ∈ setD D N p → d = (N, p) ∨ d ∈ D
 | [], d, h => .inl (List.mem_singleton.mp h)
 | e :: D, d, h => by
   have h : d ∈ (if e.1 = N then (N, p) :: D else e :: setD D N p) := h
   split at h
   ·rcases List.mem_cons.mp h with z | z
    ·exact .inl z
    ·exact .inr (.tail _ z)
   ·rcases List.mem_cons.mp h with z | z
    ·exact .inr (by rw [z]; exact .head _)
    ·rcases a9b z with y | y
     ·exact .inl y
     ·exact .inr (.tail _ y)
noncomputable def addD (D : DN) (N : Nst) (p : Po) : DN := setD D N (addP (lkD D N) p)
theorem DOK.add {m b : Nat} {D : DN} {N : Nst} {p : Po} (h : DOK m b D) (hN : N ∈ nsts m) (hp : GdE b p) : DOK m b (addD D N p) := by
 refine ⟨?_, fun d hd => ?_⟩
 ·unfold addD
  rw [a6Z]
  split
  ·exact h.1
  ·rename_i g
   rw [List.nodup_append]
   exact ⟨h.1, List.pairwise_singleton _ _, fun a ha b hb => by rw [List.mem_singleton.mp hb]; exact fun z => g (z ▸ ha)⟩
 ·rcases a9b hd with z | z
  ·rw [z]; exact ⟨hN, (a9y h.2 N).add hp⟩
  ·exact h.2 d z
noncomputable def VD (f : NF) : DN → Lp
 | [] => 0
 | d :: D => toL d.2 * f d.1 + VD f D
theorem a8e (f : NF) (N : Nst) (p : Po) : ∀ D : DN, VD f (addD D N p) = VD f D + toL p * f N
 | [] => by
   show toL (addP [] p) * f N + 0 = 0 + toL p * f N
   rw [a6h]
   have : toL [] = 0 := b2J
   rw [this]; grind
 | d :: D => by
   have ih := a8e f N p D
   unfold addD at ih ⊢
   show VD f (if d.1 = N then (N, addP (if d.1 = N then d.2 else lkD D N) p) :: D else d :: setD D N (addP (if d.1 = N then d.2 else lkD D N) p)) = toL d.2 * f d.1 + VD f D + toL p * f N
   by_cases e : d.1 = N
   ·rw [if_pos e, if_pos e]
    show toL (addP d.2 p) * f N + VD f D = _
    rw [a6h, e]; grind
   ·rw [if_neg e, if_neg e]
    show toL d.2 * f d.1 + VD f (setD D N (addP (lkD D N) p)) = _
    rw [ih]; grind
noncomputable def wl1N (l : Int) (E : DN) (d : Nst × Po) : DN :=
 let E1 := addD E d.1 (a1l d.2 [(sgI l, 1)])
 let q := a1l d.2 [(-sgI l, 1)]
 if mlN d.1 l.natAbs then addD E1 d.1 (a1l q lpP) else addD E1 (hkN d.1 l.natAbs) q
noncomputable def wlN (l : Int) (D : DN) : DN := D.foldl (wl1N l) []
theorem a4i (k : Int) : toL [(k, 1)] = xL k := rfl
theorem b7T (f : NF) (l : Int) (E : DN) (d : Nst × Po) : VD f (wl1N l E d) = VD f E + toL d.2 * tF l f d.1 := by
 unfold wl1N tF uF
 dsimp only
 by_cases h : mlN d.1 l.natAbs = true
 ·rw [if_pos h, if_pos h, a8e, a8e, a2x, a2x, a2x, a4i, a4i, show toL lpP = dlt from rfl]; grind
 ·rw [if_neg h, if_neg h, a8e, a8e, a2x, a2x, a4i, a4i]; grind
theorem a9S (f : NF) (l : Int) : ∀ (D E : DN), VD f (D.foldl (wl1N l) E) = VD f E + VD (tF l f) D
 | [], E => by show VD f E = VD f E + 0; grind
 | d :: D, E => by
   rw [List.foldl_cons, a9S f l D, b7T]
   show _ = VD f E + (toL d.2 * tF l f d.1 + VD (tF l f) D)
   grind
theorem b8Q (f : NF) (l : Int) (D : DN) : VD f (wlN l D) = VD (tF l f) D := by
 unfold wlN
 rw [a9S]
 show (0 : Lp) + _ = _
 grind
theorem DOK.wl1 {m b : Nat} (hm : Cm m) {l : Int} (hl : LetN m l) {E : DN} {d : Nst × Po} (h : DOK m (b + 3) E) (hd : d.1 ∈ nsts m ∧ GdE b d.2) : DOK m (b + 3) (wl1N l E d) := by
 have hsg : sgI l = 1 ∨ sgI l = -1 := by unfold sgI; split <;> simp
 have g1 := (hd.2.mul (GdE.mono1 hsg)).up 1 (c := b + 3) (by lia)
 have g2 := hd.2.mul (GdE.mono1 (s := -sgI l) (by lia))
 unfold wl1N
 dsimp only
 by_cases c : mlN d.1 l.natAbs = true
 ·rw [if_pos c]
  exact (h.add hd.1 g1).add hd.1 (g2.mul GdE.lp)
 ·rw [if_neg c]
  exact (h.add hd.1 g1).add ((a6B hm hd.1).2.2 _ hl.1 hl.2 (by simpa using c)).2 (g2.up 1 (by lia))
theorem DOK.foldl {m b : Nat} (hm : Cm m) {l : Int} (hl : LetN m l) : ∀ (D E : DN), DOK m (b + 3) E → (∀ d ∈ D, d.1 ∈ nsts m ∧ GdE b d.2) → DOK m (b + 3) (D.foldl (wl1N l) E)
 | [], E, h, _ => h
 | d :: D, E, h, hD => DOK.foldl hm hl D _ (h.wl1 hm hl (hD d (.head _))) fun x hx => hD x (.tail _ hx)
theorem DOK.nil (m b : Nat) : DOK m b [] := ⟨.nil, fun _ z => absurd z List.not_mem_nil⟩
theorem DOK.wl {m b : Nat} (hm : Cm m) {l : Int} (hl : LetN m l) {D : DN} (h : DOK m b D) : DOK m (b + 3) (wlN l D) := DOK.foldl hm hl D [] (DOK.nil m _) h.2
noncomputable def dcW (m : Nat) (w : List Int) : DN := w.foldl (fun D l => wlN l D) [(plN m, [(0, 1)])]
theorem a9L {m : Nat} (hm : Cm m) {w : List Int} (hw : ∀ l ∈ w, LetN m l) : DOK m (3 * w.length) (dcW m w) := by
 have key : ∀ (w : List Int) (b : Nat) (D : DN), (∀ l ∈ w, LetN m l) → DOK m b D → DOK m (b + 3 * w.length) (w.foldl (fun D l => wlN l D) D) := by
  intro w
  induction w with
  | nil => intro b D _ h; exact h
  | cons l w ih =>
    intro b D hw h
    have := ih (b + 3) (wlN l D) (fun x hx => hw x (.tail _ hx)) (h.wl hm (hw l (.head _)))
    rw [List.length_cons, show b + 3 * (w.length + 1) = b + 3 + 3 * w.length by lia]
    exact this
 have := key w 0 [(plN m, [(0, 1)])] hw ⟨List.pairwise_singleton _ _, fun d hd => by rw [List.mem_singleton.mp hd]; exact ⟨b4a hm, GdE.one⟩⟩
 rw [Nat.zero_add] at this
 exact this
theorem b7U (f : NF) (m : Nat) (w : List Int) : VD f (dcW m w) = phi w f (plN m) := by
 have key : ∀ (w : List Int) (f : NF) (D : DN), VD f (w.foldl (fun D l => wlN l D) D) = VD (phi w f) D := by
  intro w
  induction w with
  | nil => intro f D; rfl
  | cons l w ih => intro f D; rw [List.foldl_cons, ih, b8Q]; rfl
 unfold dcW
 rw [key]
 show toL [(0, 1)] * _ + 0 = _
 rw [a4i, xL_0]; grind
noncomputable def sumD : DN → Po → Po
 | [], a => a
 | d :: D, a => sumD D (addP a (a1l d.2 (dP (lpN d.1 - 1))))
theorem b0M : ∀ (D : DN) (a : Po), toL (sumD D a) = toL a + VD trF D
 | [], a => by show toL a = toL a + 0; grind
 | d :: D, a => by
   show toL (sumD D _) = toL a + (toL d.2 * trF d.1 + VD trF D)
   rw [b0M D, a6h, a2x, b0G]
   unfold trF
   grind
theorem a9c : ∀ (ns acc : List Int), acc.Nodup → (ns.foldl step_dedup acc).Nodup
 | [], acc, h => h
 | n :: ns, acc, h => by
   rw [List.foldl_cons]
   refine a9c ns _ ?_
   by_cases c : acc.any (· == n) = true
   ·rw [show step_dedup acc n = acc from if_pos c]; exact h
   ·rw [show step_dedup acc n = acc ++ [n] from if_neg c]
    have hn : n ∉ acc := fun z => c (List.any_eq_true.mpr ⟨n, z, by simp⟩)
    exact List.nodup_append.mpr ⟨h, by simp, fun a ha b hb => by rw [List.mem_singleton.mp hb]; exact fun z => hn (by rw [← z]; exact ha)⟩
theorem b8g {l : List Nat} (h : ∀ x ∈ l, x < 64) : ((nI l).foldl step_dedup []).length = dcN l := by
 have n1 := a9c (nI l) [] .nil
 have n2 : (nI ((List.range 64).filter fun x => decide (x ∈ l))).Nodup := by
  unfold nI
  refine List.pairwise_map.mpr ((List.nodup_range.filter _).imp fun h e => h (Int.ofNat.inj e))
 have hm : ∀ x, x ∈ (nI l).foldl step_dedup [] ↔ x ∈ nI ((List.range 64).filter fun x => decide (x ∈ l)) := fun x => by
  rw [b3Y]
  unfold nI
  rw [List.mem_map, List.mem_map]
  constructor
  ·rintro (z | ⟨k, hk, rfl⟩)
   ·exact absurd z List.not_mem_nil
   ·exact ⟨k, List.mem_filter.mpr ⟨List.mem_range.mpr (h k hk), decide_eq_true hk⟩, rfl⟩
  ·rintro ⟨k, hk, rfl⟩
   exact .inr ⟨k, of_decide_eq_true (List.mem_filter.mp hk).2, rfl⟩
 have := ((List.perm_ext_iff_of_nodup n1 n2).mpr hm).length_eq
 rw [this]
 unfold nI dcN
 rw [List.length_map]
theorem b4c (N : Nst) : ∀ (j b : Nat) (s : List Nat), lpS N j b s ≤ j
 | 0, _, _ => Nat.le_refl _
 | j + 1, b, s => by
   have := b4c N j (b + 1) (wkN N (N.length + 1) s b)
   unfold lpS
   split <;> lia
theorem a9x {m : Nat} (hm : Cm m) {N : Nst} (hN : N ∈ nsts m) : lpN N ≤ m := by
 have h := b4c N (N.length / 2) 0 []
 have hl := (a6B hm hN).1
 unfold lpN
 lia
theorem b5A (n : Nat) : ∀ (h : List Nat) (s : Nat × Nst), (h.foldl (fun s i => stN i s) s).1 ≤ s.1 + h.length
 | [], s => Nat.le_refl _
 | i :: h, s => by
   have := b5A n h (stN i s)
   rw [List.foldl_cons, List.length_cons]
   have h2 : (stN i s).1 ≤ s.1 + 1 := by
    unfold stN
    split
    ·exact Nat.le_refl _
    ·exact Nat.le_succ _
   lia
theorem a8B {n : Nat} (hn : Cm n) {h : List Nat} (hh : ∀ i ∈ h, 1 ≤ i ∧ i < n) (hz : h.length ≤ 50) : 1 ≤ lpH n h ∧ lpH n h ≤ n + h.length := by
 obtain ⟨e, hN⟩ := b1H hn hh hz
 have h1 := a7r hn hN
 have h2 := a9x hn hN
 have h3 := b5A n h (0, plN n)
 rw [e]
 unfold hkN' at *
 dsimp only at h3
 lia
theorem a6U (n : Nat) (s : St1) : ∀ (S : List St1) (a : Po), sumS n (S ++ [s]) a = addP (sumS n S a) (a1l [(s.1, 1)] (dP (lpH n s.2 - 1)))
 | [], a => rfl
 | t :: S, a => a6U n s S _
theorem a4U {n : Int} {ws : List Int} (ok : PlOK n ws) : Cm n.toNat ∧ ∀ s ∈ stsL ws, s.2.length ≤ ws.length ∧ (∀ i ∈ s.2, 1 ≤ i ∧ i < n.toNat) ∧ s.1.natAbs ≤ ws.length ∧ (s.1 - ws.length) % 2 = 0 := by
 obtain ⟨n1, n6, hl, hw⟩ := ok
 refine ⟨⟨by lia, by lia⟩, fun s hs => ?_⟩
 obtain ⟨a, b, c, d⟩ := b0N s hs
 refine ⟨a, fun i hi => ?_, c, d⟩
 obtain ⟨l, hl, rfl⟩ := b i hi
 obtain ⟨x, y⟩ := hw l hl
 exact ⟨by lia, by lia⟩
theorem b0a {n : Int} {ws : List Int} (ok : PlOK n ws) (hl : ws.length ≤ 16) : sumS n.toNat (stsL ws) [] = (stS n.toNat ws).1 := by
 obtain ⟨hm, hs⟩ := a4U ok
 refine b6Q (a4T (b := ws.length + 2 * (n.toNat + ws.length)) _ _ (GdE.nil _) fun s h => ?_).1 ?_
 ·obtain ⟨a, b, c, d⟩ := hs s h
  obtain ⟨r1, r2⟩ := a8B hm b (by lia)
  exact ⟨ws.length + 2 * (n.toNat + ws.length) - 2 * (lpH n.toNat s.2 - 1), by lia, by lia, by lia⟩
 ·rw [b0L hm _ _ fun s h => ⟨by have := (hs s h).1; lia, (hs s h).2.1⟩, b4o]
  show toL [] + _ = _
  rw [show toL [] = 0 from b2J]
  unfold stS
  grind
theorem b5s {n : Int} {ws : List Int} (h : a2G n ws) : ∀ l ∈ ws, LetN n.toNat l := fun l hl => by
 obtain ⟨a, b⟩ := h l hl
 exact ⟨by lia, by lia⟩
section
variable {m : Nat} (hm : Cm m)
include hm
end
noncomputable def Sd (a b : Nat) : Prop := 1 ≤ a ∧ a ≤ 3 ∧ 1 ≤ b ∧ b ≤ 3
section
variable {a b : Nat} (h : Sd a b)
include h
end
noncomputable def natT (l : List Nat) : List T := (nI l).map .int
theorem a1F (l : List Nat) : (natT l).length = l.length := by unfold natT nI; rw [List.length_map, List.length_map]
theorem a3m {l : List Nat} {i : Nat} (h : i < l.length) : atI (natT l) (i : Int) = some (.int (l.getD i 0 : Nat)) := by
 refine a2e ?_
 unfold natT nI
 rw [List.getElem?_map, List.getElem?_map, List.getElem?_eq_getElem h, List.getD_eq_getElem?_getD, List.getElem?_eq_getElem h]; rfl
theorem a6D {l : List Nat} {i : Nat} {x : T} (h : (natT l)[i]? = some x) : ∃ k, l[i]? = some k ∧ x = .int (k : Nat) := by
 unfold natT nI at h
 rw [List.getElem?_map, List.getElem?_map] at h
 cases e : l[i]? with
 | none => rw [e] at h; cases h
 | some k => rw [e] at h; exact ⟨k, rfl, (Option.some.inj h).symm⟩
theorem a4y (m : Nat) : a1b 0 m = natT (List.range m) := by
 unfold a1b natT nI
 rw [List.map_map]
 refine List.map_congr_left fun k _ => ?_
 rw [Int.zero_add]; rfl
theorem a6C (l : List Nat) (i x : Nat) : (natT l).set i (.int (x : Nat)) = natT (l.set i x) := by unfold natT nI; rw [List.map_set, List.map_set]
theorem a7p (l : List Nat) (x : Nat) : natT l ++ [.int (x : Nat)] = natT (l ++ [x]) := by unfold natT nI; rw [List.map_append, List.map_append]; rfl
noncomputable def b6E : R3 := rInt CPow fun i j => i * 2 ^ j.toNat
noncomputable def b6D : R3 := rInt (fun _ j => 0 ≤ j) fun i j => i / 2 ^ j.toNat
section
variable {X : Cx}
theorem b5m : OpR3 X (binaryOp .LShift) b6E := a5d b7b
theorem b5l : OpR3 X (binaryOp .RShift) b6D := a5d b7a
end
noncomputable def ddN (acc : List Nat) (x : Nat) : List Nat := if acc.contains x then acc else acc ++ [x]
noncomputable def dd (l : List Nat) : Nat := (l.foldl ddN []).length
noncomputable def mkJ (mk : List Nat) (j : Nat × Nat) : List Nat := mk.map fun z => if z = max (mk.getD j.1 0) (mk.getD j.2 0) then min (mk.getD j.1 0) (mk.getD j.2 0) else z
noncomputable def joC (n m : Nat) : List (Nat × Nat) := (List.range n).map fun p => (p, n * m + p)
noncomputable def layJ (n k i : Nat) : List (Nat × Nat) := (((List.range n).filter fun p => !(i != 0 && (p == i - 1 || p == i))).map fun p => (n * k + p, n * k + n + p)) ++ if i = 0 then [] else [(n * k + (i - 1), n * k + (i - 1) + 1), (n * k + n + (i - 1), n * k + n + (i - 1) + 1)]
noncomputable def layM (n : Nat) : Nat → List Nat → List Nat → List Nat
 | _, [], mk => mk
 | k, i :: ls, mk => layM n (k + 1) ls ((layJ n k i).foldl mkJ mk)
noncomputable def lwM (n : Nat) (ls : List Nat) : List Nat := layM n 0 ls ((joC n ls.length).foldl mkJ (List.range (n * (ls.length + 1))))
noncomputable def b8G (N : List Nat) : Nat := N.foldr (fun x c => x + 32 * c) 0
noncomputable def b5K : Nat → Nat → List Nat
 | 0, _ => []
 | k + 1, c => c % 32 :: b5K k (c / 32)
noncomputable def fcM (l : Nat) (N : List Nat) (k : List Nat → Bool) : Bool := frN (b8G N) fun c => N == b5K l c && k (b5K l c)
theorem b7F {l : Nat} {N : List Nat} {k : List Nat → Bool} (h : fcM l N k = true) : k N = true := by
 unfold fcM at h
 rw [b4g, Bool.and_eq_true, beq_iff_eq] at h
 rw [h.1]; exact h.2
noncomputable def foM (l : Nat) : List (Nat × Nat) → List Nat → (List Nat → Bool) → Bool
 | [], mk, k => k mk
 | j :: js, mk, k => fcM l (mkJ mk j) fun mk' => foM l js mk' k
theorem a7L {l : Nat} {k : List Nat → Bool} : ∀ (js : List (Nat × Nat)) (mk : List Nat), foM l js mk k = true → k (js.foldl mkJ mk) = true
 | [], mk, h => h
 | j :: js, mk, h => a7L js _ (b7F (k := fun mk' => foM l js mk' k) h)
noncomputable def st0 (i : Nat) (s : Nat × Nst) : Nat × Nst := if i = 0 then s else stN i s
noncomputable def ckW (n l : Nat) : Nat → Nat → List Nat → Nat → Nst → Bool
 | 0, _, mk, c, N => dd mk == c + lpN N
 | r + 1, k, mk, c, N => (List.range n).all fun i => foM l (layJ n k i) mk fun mk' => fcN (2 * n) (st0 i (c, N)).2 fun N' => ckW n l r (k + 1) mk' (st0 i (c, N)).1 N'
theorem b2t {n l : Nat} : ∀ (ls : List Nat) (k : Nat) (mk : List Nat) (s : Nat × Nst), ckW n l ls.length k mk s.1 s.2 = true → (∀ i ∈ ls, i < n) → dd (layM n k ls mk) = (ls.foldl (fun s i => st0 i s) s).1 + lpN (ls.foldl (fun s i => st0 i s) s).2
 | [], k, mk, s, h, _ => beq_iff_eq.mp h
 | i :: ls, k, mk, s, h, hi => by
   have h1 := List.all_eq_true.mp (show (List.range n).all _ = true from h) i (List.mem_range.mpr (hi i (.head _)))
   have h2 := a7L (k := fun mk' => fcN (2 * n) (st0 i (s.1, s.2)).2 fun N' => ckW n l ls.length (k + 1) mk' (st0 i (s.1, s.2)).1 N') _ _ h1
   have h3 := a9E (k := fun N' => ckW n l ls.length (k + 1) ((layJ n k i).foldl mkJ mk) (st0 i (s.1, s.2)).1 N') h2
   exact b2t ls (k + 1) _ (st0 i s) h3 fun x hx => hi x (.tail _ hx)
noncomputable def ckV (n m : Nat) : Bool := foM (n * (m + 1)) (joC n m) (List.range (n * (m + 1))) fun mk => ckW n (n * (m + 1)) m 0 mk 0 (plN n)
theorem b8M : (ckV 1 0 && ckV 1 1 && ckV 1 2 && ckV 1 3 && ckV 1 4 && ckV 1 5) = true := by decide +kernel
theorem b8L : (ckV 2 0 && ckV 2 1 && ckV 2 2 && ckV 2 3 && ckV 2 4 && ckV 2 5) = true := by decide +kernel
theorem b8K : (ckV 3 0 && ckV 3 1 && ckV 3 2 && ckV 3 3 && ckV 3 4 && ckV 3 5) = true := by decide +kernel
theorem b8J : (ckV 4 0 && ckV 4 1 && ckV 4 2 && ckV 4 3 && ckV 4 4) = true := by decide +kernel
noncomputable def ckVi (n m i : Nat) : Bool := foM (n * (m + 2)) (joC n (m + 1)) (List.range (n * (m + 2))) fun mk => foM (n * (m + 2)) (layJ n 0 i) mk fun mk' => fcN (2 * n) (st0 i (0, plN n)).2 fun N' => ckW n (n * (m + 2)) m 1 mk' (st0 i (0, plN n)).1 N'
theorem b7P : ckVi 4 4 0 = true := by decide +kernel
theorem b7O : ckVi 4 4 1 = true := by decide +kernel
theorem b7N : ckVi 4 4 2 = true := by decide +kernel
theorem b7M : ckVi 4 4 3 = true := by decide +kernel
theorem a6N {n m i : Nat} (h : ckVi n m i = true) {r : List Nat} (hr : r.length = m) (hi : ∀ x ∈ r, x < n) : dd (layM n 0 (i :: r) ((joC n (m + 1)).foldl mkJ (List.range (n * (m + 2))))) = ((i :: r).foldl (fun s i => st0 i s) (0, plN n)).1 + lpN ((i :: r).foldl (fun s i => st0 i s) (0, plN n)).2 := by
 have h0 := a7L (k := fun mk => foM (n * (m + 2)) (layJ n 0 i) mk fun mk' => fcN (2 * n) (st0 i (0, plN n)).2 fun N' => ckW n (n * (m + 2)) m 1 mk' (st0 i (0, plN n)).1 N') _ _ h
 have h2 := a7L (k := fun mk' => fcN (2 * n) (st0 i (0, plN n)).2 fun N' => ckW n (n * (m + 2)) m 1 mk' (st0 i (0, plN n)).1 N') _ _ h0
 have h3 := a9E (k := fun N' => ckW n (n * (m + 2)) m 1 ((layJ n 0 i).foldl mkJ ((joC n (m + 1)).foldl mkJ (List.range (n * (m + 2))))) (st0 i (0, plN n)).1 N') h2
 subst hr
 exact b2t r 1 _ (st0 i (0, plN n)) h3 hi
theorem b5O {n m : Nat} (h1 : 1 ≤ n) (h4 : n ≤ 4) (h5 : m ≤ 5) (h9 : n ≤ 3 ∨ m ≤ 4) : ckV n m = true := by
 have a := b8M
 have b := b8L
 have c := b8K
 have d := b8J
 simp only [Bool.and_eq_true] at a b c d
 have hn : n = 1 ∨ n = 2 ∨ n = 3 ∨ n = 4 := by lia
 have hm : m = 0 ∨ m = 1 ∨ m = 2 ∨ m = 3 ∨ m = 4 ∨ m = 5 := by lia
 rcases hn with rfl | rfl | rfl | rfl <;> rcases hm with rfl | rfl | rfl | rfl | rfl | rfl
 ·exact a.1.1.1.1.1
 ·exact a.1.1.1.1.2
 ·exact a.1.1.1.2
 ·exact a.1.1.2
 ·exact a.1.2
 ·exact a.2
 ·exact b.1.1.1.1.1
 ·exact b.1.1.1.1.2
 ·exact b.1.1.1.2
 ·exact b.1.1.2
 ·exact b.1.2
 ·exact b.2
 ·exact c.1.1.1.1.1
 ·exact c.1.1.1.1.2
 ·exact c.1.1.1.2
 ·exact c.1.1.2
 ·exact c.1.2
 ·exact c.2
 ·exact d.1.1.1.1
 ·exact d.1.1.1.2
 ·exact d.1.1.2
 ·exact d.1.2
 ·exact d.2
 ·rcases h9 with z | z
  ·exact absurd z (by decide)
  ·exact absurd z (by decide)
theorem b7n {ls : List Nat} (h5 : ls.length = 5) (hi : ∀ i ∈ ls, i < 4) : dd (layM 4 0 ls ((joC 4 ls.length).foldl mkJ (List.range (4 * (ls.length + 1))))) = (ls.foldl (fun s i => st0 i s) (0, plN 4)).1 + lpN (ls.foldl (fun s i => st0 i s) (0, plN 4)).2 := by
 match ls, h5, hi with
 | i :: r, h5, hi =>
   have hr : r.length = 4 := by rw [List.length_cons] at h5; lia
   have h := hi i (.head _)
   have hr2 : ∀ x ∈ r, x < 4 := fun x hx => hi x (.tail _ hx)
   rw [h5]
   have c : i = 0 ∨ i = 1 ∨ i = 2 ∨ i = 3 := by lia
   rcases c with rfl | rfl | rfl | rfl
   ·exact a6N b7P hr hr2
   ·exact a6N b7O hr hr2
   ·exact a6N b7N hr hr2
   ·exact a6N b7M hr hr2
theorem a9a : ∀ (ls : List Nat) (s : Nat × Nst), ls.foldl (fun s i => st0 i s) s = (ls.filter fun i => i != 0).foldl (fun s i => stN i s) s
 | [], s => rfl
 | i :: ls, s => by
   rw [List.foldl_cons, a9a ls, List.filter_cons]
   unfold st0
   by_cases c : i = 0
   ·rw [if_pos c, if_neg (by simpa using c)]
   ·rw [if_neg c, if_pos (by simpa using c), List.foldl_cons]
theorem b8y {n : Nat} (h1 : 1 ≤ n) (h4 : n ≤ 4) {ls : List Nat} (h5 : ls.length ≤ 5) (hi : ∀ i ∈ ls, i < n) : dd (lwM n ls) = (hkN' n (ls.filter fun i => i != 0)).1 + lpN (hkN' n (ls.filter fun i => i != 0)).2 := by
 have : dd (layM n 0 ls ((joC n ls.length).foldl mkJ (List.range (n * (ls.length + 1))))) = (ls.foldl (fun s i => st0 i s) (0, plN n)).1 + lpN (ls.foldl (fun s i => st0 i s) (0, plN n)).2 := by
  by_cases c : n ≤ 3 ∨ ls.length ≤ 4
  ·have h := a7L (k := fun mk => ckW n (n * (ls.length + 1)) ls.length 0 mk 0 (plN n)) _ _ (b5O h1 h4 h5 c)
   exact b2t ls 0 _ (0, plN n) h hi
  ·obtain rfl : n = 4 := by lia
   exact b7n (by lia) hi
 unfold lwM
 rw [this, a9a]; rfl
noncomputable def bitN (num k : Nat) : Bool := num / 2 ^ k % 2 == 1
noncomputable def pwF : Nat → List Int → Nat → Int
 | _, [], _ => 0
 | k, l :: w, num => (if bitN num k then -sgI l else sgI l) + pwF (k + 1) w num
noncomputable def lyF : Nat → List Int → Nat → List Nat
 | _, [], _ => []
 | k, l :: w, num => (if bitN num k then l.natAbs else 0) :: lyF (k + 1) w num
theorem b1E : ∀ (w : List Int) (k num : Nat), (lyF k w num).length = w.length
 | [], _, _ => rfl
 | l :: w, k, num => by
   show (lyF (k + 1) w num).length + 1 = _
   rw [b1E w]; rfl
theorem b4E {l : Int} {S : List St1} {k num : Nat} (hl : S.length = 2 ^ k) (h : ∀ s ∈ S, True) : (stpS l S)[num % 2 ^ (k + 1)]? = (S[num % 2 ^ k]?).map fun s => if bitN num k then (s.1 - sgI l, s.2 ++ [l.natAbs]) else (s.1 + sgI l, s.2) := by
 have hp : 0 < 2 ^ k := Nat.pow_pos (by decide)
 have hr := Nat.mod_lt num hp
 have e : num % 2 ^ (k + 1) = num % 2 ^ k + 2 ^ k * (num / 2 ^ k % 2) := Nat.mod_pow_succ
 have h2 : num / 2 ^ k % 2 < 2 := Nat.mod_lt _ (by decide)
 unfold stpS bitN
 rw [e]
 by_cases c : num / 2 ^ k % 2 = 1
 ·rw [c, Nat.mul_one, List.getElem?_append_right (by rw [List.length_map, hl]; exact Nat.le_add_left _ _), List.length_map, hl, Nat.add_sub_cancel, List.getElem?_map]
  rfl
 ·have c0 : num / 2 ^ k % 2 = 0 := by lia
  rw [c0, Nat.mul_zero, Nat.add_zero, List.getElem?_append_left (by rw [List.length_map, hl]; exact hr), List.getElem?_map]
  rfl
theorem b6w : ∀ (w : List Int) (S : List St1) (k num : Nat), (∀ l ∈ w, l ≠ 0) → S.length = 2 ^ k → (w.foldl (fun S l => stpS l S) S)[num % 2 ^ (k + w.length)]? = (S[num % 2 ^ k]?).map fun s => (s.1 + pwF k w num, s.2 ++ (lyF k w num).filter fun i => i != 0) := by
 intro w
 induction w with
 | nil =>
   intro S k num _ hl
   show S[num % 2 ^ k]? = _
   cases S[num % 2 ^ k]? with
   | none => rfl
   | some s => show some s = some (s.1 + 0, s.2 ++ []); rw [Int.add_zero, List.append_nil]
 | cons l w ih =>
   intro S k num hw hl
   have hl2 : (stpS l S).length = 2 ^ (k + 1) := by unfold stpS; rw [List.length_append, List.length_map, List.length_map, hl, Nat.pow_succ]; lia
   have := ih (stpS l S) (k + 1) num (fun x hx => hw x (.tail _ hx)) hl2
   have hl0 := hw l (.head _)
   rw [List.foldl_cons, List.length_cons, show k + (w.length + 1) = k + 1 + w.length by lia, this, b4E hl fun _ _ => trivial, Option.map_map]
   congr 1
   funext s
   show ((if bitN num k then (s.1 - sgI l, s.2 ++ [l.natAbs]) else (s.1 + sgI l, s.2)).1 + pwF (k + 1) w num, (if bitN num k then (s.1 - sgI l, s.2 ++ [l.natAbs]) else (s.1 + sgI l, s.2)).2 ++ _) = (s.1 + ((if bitN num k then -sgI l else sgI l) + pwF (k + 1) w num), s.2 ++ (((if bitN num k then l.natAbs else 0) :: lyF (k + 1) w num).filter fun i => i != 0))
   by_cases c : bitN num k = true
   ·simp only [c, if_true]
    refine Prod.ext (by show s.1 - sgI l + _ = s.1 + (-sgI l + _); lia) ?_
    show s.2 ++ [l.natAbs] ++ _ = s.2 ++ _
    rw [List.filter_cons, if_pos (show (l.natAbs != 0) = true by rw [bne_iff_ne]; lia), List.append_assoc]; rfl
   ·simp only [c, if_false, Bool.false_eq_true]
    refine Prod.ext (by show s.1 + sgI l + _ = s.1 + (sgI l + _); lia) ?_
    show s.2 ++ _ = s.2 ++ _
    rw [List.filter_cons, if_neg (by decide)]
theorem b4C {w : List Int} {num : Nat} (hw : ∀ l ∈ w, l ≠ 0) (h : num < 2 ^ w.length) : (stsL w)[num]? = some (pwF 0 w num, (lyF 0 w num).filter fun i => i != 0) := by
 have := b6w w [(0, [])] 0 num hw rfl
 rw [Nat.zero_add, Nat.mod_eq_of_lt h, Nat.pow_zero, Nat.mod_one] at this
 unfold stsL
 rw [this]
 show some (0 + _, [] ++ _) = _
 rw [Int.zero_add, List.nil_append]
theorem b7J : ∀ (l acc : List Nat), nI (l.foldl ddN acc) = (nI l).foldl step_dedup (nI acc)
 | [], acc => rfl
 | x :: l, acc => by
   have e : nI (ddN acc x) = step_dedup (nI acc) (x : Int) := by
    have ea : ((nI acc).any (· == (x : Int))) = acc.contains x := by
     unfold nI
     rw [List.any_map, List.contains_eq_any_beq]
     congr 1
     funext y
     show ((y : Int) == (x : Int)) = (x == y)
     by_cases c : x = y
     ·rw [c, beq_self_eq_true, beq_self_eq_true]
     ·have e1 : ((y : Int) == (x : Int)) = false := beq_eq_false_iff_ne.mpr (fun z => c (Int.ofNat.inj z).symm)
      rw [e1, beq_eq_false_iff_ne.mpr c]
    unfold ddN
    by_cases c : acc.contains x = true
    ·rw [if_pos c, show step_dedup (nI acc) (x : Int) = nI acc from if_pos (by rw [ea]; exact c)]
    ·rw [if_neg c, show step_dedup (nI acc) (x : Int) = nI acc ++ [(x : Int)] from if_neg (by rw [ea]; exact c)]
     unfold nI
     rw [List.map_append]; rfl
   rw [List.foldl_cons, b7J l, e]; rfl
theorem b7K (l : List Nat) : ((nI l).foldl step_dedup []).length = dd l := by
 have := congrArg List.length (b7J l [])
 unfold dd
 rw [show nI ([] : List Nat) = [] from rfl] at this
 rw [← this]
 unfold nI
 rw [List.length_map]
noncomputable def allJ (n : Nat) : Nat → List Nat → List (Nat × Nat)
 | _, [] => []
 | k, i :: ls => layJ n k i ++ allJ n (k + 1) ls
theorem a9z (n : Nat) : ∀ (ls : List Nat) (k : Nat) (mk : List Nat), layM n k ls mk = (allJ n k ls).foldl mkJ mk
 | [], _, _ => rfl
 | i :: ls, k, mk => by
   show layM n (k + 1) ls _ = (layJ n k i ++ allJ n (k + 1) ls).foldl mkJ mk
   rw [a9z n ls, List.foldl_append]
theorem a8c (n i : Nat) : ∀ (ls : List Nat) (k : Nat), allJ n k (ls ++ [i]) = allJ n k ls ++ layJ n (k + ls.length) i
 | [], k => by
   show layJ n k i ++ [] = [] ++ layJ n (k + 0) i
   rw [List.append_nil]; rfl
 | j :: ls, k => by
   show layJ n k j ++ allJ n (k + 1) (ls ++ [i]) = layJ n k j ++ allJ n (k + 1) ls ++ _
   rw [a8c n i ls, List.append_assoc, List.length_cons, show k + 1 + ls.length = k + (ls.length + 1) by lia]
theorem b5r (n : Nat) (ls : List Nat) : lwM n ls = (joC n ls.length ++ allJ n 0 ls).foldl mkJ (List.range (n * (ls.length + 1))) := by
 unfold lwM
 rw [a9z, List.foldl_append]
noncomputable def lyH (ws : List Int) (hs : List Bool) : List Nat := List.zipWith (fun l b => if b then l.natAbs else 0) ws hs
theorem b7m : ∀ (w : List Int) (k num : Nat), lyF k w num = lyH w ((List.range' k w.length).map (bitN num))
 | [], _, _ => rfl
 | l :: w, k, num => by
   show (if bitN num k then l.natAbs else 0) :: lyF (k + 1) w num = _
   rw [b7m w, List.length_cons, List.range'_succ]; rfl
section
variable {X : Cx} {Ha : Hp} {o i e : Expr} {es : List Expr} {tc : TE3} {t : TA3} {p2 pos : Pos}
end
local macro_rules | `(tactic| walk_at "3") => `(tactic| first | exact Or.inl rfl | exact Or.inr (Or.inl rfl) | exact Or.inr (Or.inr rfl))
local macro_rules | `(tactic| walk_at "2") => `(tactic| first | exact Or.inl rfl | exact Or.inr rfl)
local macro_rules | `(tactic| walk_at "4") => `(tactic| first | exact .inl rfl | exact .inr rfl | assumption)
local macro_rules | `(tactic| walk_at "rd") => `(tactic| (try simp only [ b6E, b6D, tKt, b6n, sDPD, b3V, a9J, b4f, b4I, b4S, rInK, b6i, rIn3, b0K, b4N, b4M, b6h, a6i, tCB3, b0I, b6k, b2L, tK, tOp3, tUn3, a9Z, b4y, b3S, b6m, b3U, b6u, b0H, b6f, b6j, b6v, tOr3, b3X, b3R, tIf3, a8Z, b6e, b6l, b3W, tLM3, b3T, b3Q, b3P, tP3, b6p, b6o, b0t, b4A, tDGK, sDPK, b6d,
 a7I, a7K, b5F, b1Y, b7E, a6W, b7x, tWk, tDGF, a8Y, a6o, b7y, b1g, a6p, b1U, b5z, b5y, b4T, b4J, b4L, b6H, b6G, b6F, rInt, b4K, rIx3, b4O, b4U, a8r, b1f, b4P, b4R, b2X, rLt3, rLe3, rGt3, rGe3, a8s, rEq3, rNe3, rEqv, truT, b3w, tyK, tIsi, isiK,
 a8k, a8j, b0b, b0h, b0g, b1k, b1M, List.getElem?_cons_zero, List.getElem?_cons_succ, List.set_cons_zero, List.set_cons_succ, List.length_cons, List.length_nil, List.map_nil, List.isEmpty_cons, List.isEmpty_nil, a0d, a6T, b8P, b8O, b8N, b8z, a7X, a7D,
 a2B, a9k, a4q, a5a, b0f, a4Z, a2P, b2i, a4Q, a5Z, a7N, a5Y, b5G, a3D, b2b, b3E, b2a, id, Bool.not_true, Bool.not_false, Bool.and_true, Bool.true_and, Bool.or_false, Bool.false_or,
 decide_eq_true_eq, Bool.not_eq_true', decide_eq_false_iff_not, Bool.false_eq_true, ↓reduceIte, if_true, if_false, true_and, and_true, and_self, Nat.zero_le, not_true_eq_false, not_false_eq_true, List.length_map, List.length_append, List.length_singleton]))
noncomputable abbrev top (i : Nat) : Stmt := PySem.Challenge.pw_loopwright_k73_sums_over_states.main.body.getD i (.Pass ⟨0, 0, 0, 0⟩)
noncomputable abbrev a1K : Stmt := top 7
noncomputable abbrev a2A : Stmt := top 8
noncomputable abbrev a2r : Stmt := top 9
noncomputable abbrev a3K : Stmt := top 10
noncomputable abbrev a2T : Stmt := top 12
noncomputable abbrev a0z : Stmt := top 16
noncomputable abbrev a4x : Stmt := top 17
noncomputable abbrev a1v : Stmt := top 18
noncomputable abbrev a1h : Stmt := top 22
noncomputable abbrev a1c : Stmt := top 23
noncomputable abbrev a3k : Stmt := top 24
noncomputable abbrev a0L : Stmt := top 25
noncomputable abbrev a1L : Stmt := top 26
noncomputable abbrev a1u : Stmt := top 27
noncomputable abbrev a1w : Stmt := top 28
noncomputable abbrev a1J : Stmt := top 29
noncomputable abbrev a3J : Stmt := top 30
noncomputable abbrev a1g : Stmt := top 31
noncomputable abbrev a0R : Stmt := top 32
noncomputable abbrev a2s : Stmt := top 33
noncomputable abbrev a1z : Stmt := top 35
noncomputable abbrev a1M : Stmt := top 36
noncomputable abbrev a1i : Stmt := top 37
noncomputable abbrev a1A : Stmt := top 38
noncomputable abbrev a1x : Stmt := top 39
noncomputable abbrev a2t : Stmt := top 40
noncomputable abbrev a1y : Stmt := top 41
noncomputable abbrev a1q : Stmt := top 42
noncomputable abbrev a1j : Stmt := top 43
noncomputable abbrev a0T : Stmt := top 44
noncomputable abbrev a1N : Stmt := top 45
noncomputable abbrev a6n : Stmt := top 46
theorem a7a : FnScope ["strands", "letter"] ["strands", "letter"] (a0b a1K) := ⟨rfl, rfl, rfl, by decide +kernel, rfl, by decide +kernel, by decide +kernel⟩
theorem b0e : FnScope ["strands", "word", "most"] ["strands", "word", "most"] (a0b a2A) := ⟨rfl, rfl, rfl, by decide +kernel, rfl, by decide +kernel, by decide +kernel⟩
theorem a8m : FnScope ["plait"] ["plait"] (a0b a2r) := ⟨rfl, rfl, rfl, by decide +kernel, rfl, by decide +kernel, by decide +kernel⟩
theorem b0X : FnScope ["plait"] ["plait"] (a0b a3K) := ⟨rfl, rfl, rfl, by decide +kernel, rfl, by decide +kernel, by decide +kernel⟩
theorem b0d : FnScope ["letter"] ["letter"] (a0b a2T) := ⟨rfl, rfl, rfl, by decide +kernel, rfl, by decide +kernel, by decide +kernel⟩
theorem a4o : FnScope ["counts"] ["counts"] (a0b a0z) := ⟨rfl, rfl, rfl, by decide +kernel, rfl, by decide +kernel, by decide +kernel⟩
theorem a4M : FnScope ["one", "other", "counts", "power", "count"] ["one", "other"] (a0b a4x) := ⟨rfl, rfl, rfl, by decide +kernel, rfl, by decide +kernel, by decide +kernel⟩
theorem a0V : FnScope ["one", "other", "counts", "power", "count", "other_power", "other_count", "both"] ["one", "other"] (a0b a1v) := ⟨rfl, rfl, rfl, by decide +kernel, rfl, by decide +kernel, by decide +kernel⟩
theorem a3S : FnScope ["most", "worths"] ["most"] (a0b a1h) := ⟨rfl, rfl, rfl, by decide +kernel, rfl, by decide +kernel, by decide +kernel⟩
theorem a1t : FnScope ["word", "states", "letter", "sign", "straight"] ["word"] (a0b a1c) := ⟨rfl, rfl, rfl, by decide +kernel, rfl, by decide +kernel, by decide +kernel⟩
theorem b0Y : FnScope ["marks", "one", "other"] ["marks", "one", "other"] (a0b a3k) := ⟨rfl, rfl, rfl, by decide +kernel, rfl, by decide +kernel, by decide +kernel⟩
theorem a0y : FnScope ["strands", "hooked", "marks", "standing", "number", "place"] ["strands", "hooked"] (a0b a0L) := ⟨rfl, rfl, rfl, by decide +kernel, rfl, by decide +kernel, by decide +kernel⟩
theorem a0S : FnScope ["plait", "letters", "worths", "whole", "power", "hooked", "loops"] ["plait"] (a0b a1L) := ⟨rfl, rfl, rfl, by decide +kernel, rfl, by decide +kernel, by decide +kernel⟩
theorem a6l : FnScope ["strands"] ["strands"] (a0b a1u) := ⟨rfl, rfl, rfl, by decide +kernel, rfl, by decide +kernel, by decide +kernel⟩
theorem a4p : FnScope ["nest", "number", "below"] ["nest", "number"] (a0b a1w) := ⟨rfl, rfl, rfl, by decide +kernel, rfl, by decide +kernel, by decide +kernel⟩
theorem a3w : FnScope ["nest", "number", "below", "joined"] ["nest", "number"] (a0b a1J) := ⟨rfl, rfl, rfl, by decide +kernel, rfl, by decide +kernel, by decide +kernel⟩
theorem b0W : FnScope ["worths", "nest", "worth"] ["worths", "nest", "worth"] (a0b a3J) := ⟨rfl, rfl, rfl, by decide +kernel, rfl, by decide +kernel, by decide +kernel⟩
theorem a0Z : FnScope ["worths", "letter", "sign", "found", "nest", "worth", "hooked"] ["worths", "letter"] (a0b a1g) := ⟨rfl, rfl, rfl, by decide +kernel, rfl, by decide +kernel, by decide +kernel⟩
theorem a0w : FnScope ["nest", "strands", "seen", "loops", "begin", "at"] ["nest"] (a0b a0R) := ⟨rfl, rfl, rfl, by decide +kernel, rfl, by decide +kernel, by decide +kernel⟩
theorem a0W : FnScope ["plait", "worths", "letter", "loops", "whole", "nest", "worth"] ["plait"] (a0b a2s) := ⟨rfl, rfl, rfl, by decide +kernel, rfl, by decide +kernel, by decide +kernel⟩
theorem a3j : FnScope ["script", "k", "cell"] ["script", "k"] (a0b a1z) := ⟨rfl, rfl, rfl, by decide +kernel, rfl, by decide +kernel, by decide +kernel⟩
theorem a2M : FnScope ["state", "many", "found", "mixed"] ["state", "many"] (a0b a1M) := ⟨rfl, rfl, rfl, by decide +kernel, rfl, by decide +kernel, by decide +kernel⟩
theorem a3T : FnScope ["state", "strands", "number"] ["state", "strands"] (a0b a1i) := ⟨rfl, rfl, rfl, by decide +kernel, rfl, by decide +kernel, by decide +kernel⟩
theorem a2o : FnScope ["state", "most", "longest", "strands", "word", "k"] ["state", "most", "longest"] (a0b a1A) := ⟨rfl, rfl, rfl, by decide +kernel, rfl, by decide +kernel, by decide +kernel⟩
theorem a6m : FnScope ["found"] ["found"] (a0b a1x) := ⟨rfl, rfl, rfl, by decide +kernel, rfl, by decide +kernel, by decide +kernel⟩
theorem a8n : FnScope ["found", "power", "count"] ["found", "power", "count"] (a0b a2t) := ⟨rfl, rfl, rfl, by decide +kernel, rfl, by decide +kernel, by decide +kernel⟩
theorem a2n : FnScope ["one", "other", "found", "power", "more"] ["one", "other"] (a0b a1y) := ⟨rfl, rfl, rfl, by decide +kernel, rfl, by decide +kernel, by decide +kernel⟩
theorem a7b : FnScope ["found"] ["found"] (a0b a1q) := ⟨rfl, rfl, rfl, by decide +kernel, rfl, by decide +kernel, by decide +kernel⟩
theorem a3U : FnScope ["found", "due", "one"] ["found", "due"] (a0b a1j) := ⟨rfl, rfl, rfl, by decide +kernel, rfl, by decide +kernel, by decide +kernel⟩
theorem a0s : FnScope ["strands", "word", "hooks", "many", "mark", "joins", "k", "here", "at", "place", "one", "other", "low", "high"] ["strands", "word", "hooks"] (a0b a0T) := ⟨rfl, rfl, rfl, by decide +kernel, rfl, by decide +kernel, by decide +kernel⟩
theorem a0H : FnScope ["strands", "word", "found", "number", "hooks", "power", "k", "worth", "loop", "more"] ["strands", "word"] (a0b a1N) := ⟨rfl, rfl, rfl, by decide +kernel, rfl, by decide +kernel, by decide +kernel⟩
theorem a9d : FnScope ["script", "strands", "word", "due"] ["script"] (a0b a6n) := ⟨rfl, rfl, rfl, by decide +kernel, rfl, by decide +kernel, by decide +kernel⟩
structure Zs (K : PySem.W.Frag) (mg : Str → Option Value) : Prop where
 b_abs : mg "abs" = none
 b_all : mg "all" = none
 b_bool : mg "bool" = none
 b_dict : mg "dict" = none
 b_int : mg "int" = none
 b_isinstance : mg "isinstance" = none
 b_len : mg "len" = none
 b_list : mg "list" = none
 b_max : mg "max" = none
 b_min : mg "min" = none
 b_range : mg "range" = none
 b_set : mg "set" = none
 b_sorted : mg "sorted" = none
 b_tuple : mg "tuple" = none
 c_LOOP : ∃ u : Addr, mg "LOOP" = some (.ref u) ∧ ∀ H, Rep K H (.ref u) (.tup [.tup [.int (-2), .int (-1)], .tup [.int (2), .int (-1)]])
 c_MOST_LETTERS : ∃ tk, mg "MOST_LETTERS" = some (.int 16 tk)
 c_MOST_LETTERS_BY_STATES : ∃ tk, mg "MOST_LETTERS_BY_STATES" = some (.int 10 tk)
 c_MOST_STRANDS : ∃ tk, mg "MOST_STRANDS" = some (.int 6 tk)
 c_NOUGHT : ∃ u : Addr, mg "NOUGHT" = some (.ref u) ∧ ∀ H, Rep K H (.ref u) (.tup [])
 c_ONE : ∃ u : Addr, mg "ONE" = some (.ref u) ∧ ∀ H, Rep K H (.ref u) (.tup [.tup [.int (0), .int (1)]])
noncomputable def a1V : Sp3 := fun ts M Q => match ts with
 | [.int n, .int l] => Q (.bl (a7C n l)) M
 | _ => False
theorem a7j {P : Program} {w : World} {K : PySem.W.Frag} {mg : Str → Option Value} {base : Heap} {f : Addr} {fd : FuncData} {n : Nat}  (F : Fun K "is_letter" "is_letter" a1K f fd) (hm : mg "is_letter" = some (.ref f)) (hb : a0Y K fd ["strands", "letter"] []) (Z : Zs K mg)  : Df P w K mg base (n + 1) "is_letter" ["strands", "letter"] a1V := by
 refine F.dfn hm hb a7a (by intro ts M Q h; unfold a1V at h; first | (split at h <;> first | rfl | exact h.elim) | (obtain ⟨_, _, _, _, _, rfl, _⟩ := h; rfl) | (obtain ⟨_, _, _, _, rfl, _⟩ := h; rfl) | (obtain ⟨_, _, _, rfl, _⟩ := h; rfl) | (obtain ⟨_, _, rfl, _⟩ := h; rfl) | (obtain ⟨_, rfl, _⟩ := h; rfl)) ⟨_, fun cdv A outer s H E hr => (@a0h _ _ _ (@a1a _ _ _ _ (@b5E _ _ _ _ _ _ _ _ _ _ _ _ a9q b1v a0g (@a0B _ _ _ _ _ _ _ _ _ a3H Z.b_abs PyProof.Rows.boot_abs (@a0a _ _ _ _ _ (@hv _ 1 _ _ (by rfl) (by walk_at "3") (by decide) (by decide)) a0f (by rfl)) (by rfl) (by decide) (by decide) (by rfl) (by rfl)) (@hv _ 0 _ _ (by rfl) (by walk_at "3") (by decide) (by decide)) (by with_unfolding_all rfl)))), fun ts M Q h => ?_⟩
 unfold a1V a7C at h
 split at h
 ·rename_i n l
  walk_at "rd"
  refine ite2 (fun c => a0j ?_) (fun c => a0j ?_)
  ·simpa [show 1 ≤ l.natAbs by lia] using h
  ·simpa [show ¬ 1 ≤ l.natAbs by lia] using h
 ·exact h.elim
noncomputable def a3I : Sp3 := fun ts M Q => match ts with
 | [.int n, .tup w, .int k] => ∃ ws : List Int, w = ws.map .int ∧ ws.length < 10000 ∧ Q (.bl (isWd n ws k)) M
 | _ => False
theorem b0k {P : Program} {w : World} {K : PySem.W.Frag} {mg : Str → Option Value} {base : Heap} {f : Addr} {fd : FuncData} {n : Nat}  (F : Fun K "is_word" "is_word" a2A f fd) (hm : mg "is_word" = some (.ref f)) (hb : a0Y K fd ["strands", "word", "most"] []) (Z : Zs K mg) (D_is_letter : Df P w K mg base n "is_letter" ["strands", "letter"] a1V) : Df P w K mg base (n + 1) "is_word" ["strands", "word", "most"] a3I := by
 obtain ⟨tk_MOST_STRANDS, c_MOST_STRANDS⟩ := Z.c_MOST_STRANDS
 refine F.dfn hm hb b0e (by intro ts M Q h; unfold a3I at h; first | (split at h <;> first | rfl | exact h.elim) | (obtain ⟨_, _, _, _, _, rfl, _⟩ := h; rfl) | (obtain ⟨_, _, _, _, rfl, _⟩ := h; rfl) | (obtain ⟨_, _, _, rfl, _⟩ := h; rfl) | (obtain ⟨_, _, rfl, _⟩ := h; rfl) | (obtain ⟨_, rfl, _⟩ := h; rfl)) ⟨_, fun cdv A outer s H E hr => (@a0c _ _ _ _ _ (@s_if _ _ _ _ _ _ _ _ (@HW.ht _ _ _ (@w_or _ _ _ _ _ _ _ (@a7E _ _ _ _ (@b3z _ _ _ _ _ _ _ _ _ _ _ _ a9q a9q a0g (@hv _ 0 _ _ (by rfl) (by walk_at "3") (by decide) (by decide)) (@a8M _ _ _ _ _ c_MOST_STRANDS (by rfl) (by decide)) (by with_unfolding_all rfl))) (@b2K _ _ _ _ (@a1X _ _ _ _ _ _ _ _ a5O (@a0B _ _ _ _ _ _ _ _ _ a0E Z.b_len PySem.boot_len (@a0a _ _ _ _ _ (@hv _ 1 _ _ (by rfl) (by walk_at "3") (by decide) (by decide)) a0f (by rfl)) (by rfl) (by decide) (by decide) (by rfl) (by rfl)) (@hv _ 2 _ _ (by rfl) (by walk_at "3") (by decide) (by decide)) (@a1C _ _ (by decide) (by decide)))))) (@a0h _ _ _ (@a1a _ _ _ _ h_bl)) a2y) (@a0h _ _ _ (@a1a _ _ _ _ (@a0B _ _ _ _ _ _ _ _ _ (@b2z _ rfl) Z.b_all PyProof.Rows.boot_all (@a0a _ _ _ _ _ (@a7G _ _ _ _ _ _ _ _ _ _ _ _ _ _ rfl (@a3P _ _ _ _ (@hv _ 1 _ _ (by rfl) (by walk_at "3") (by decide) (by decide))) (@a1H _ (a0b a2A) _ (["strands", "word", "most"]) (["letter", "strands"]) ([none, some 0]) (by decide +kernel) rfl rfl) a4f (fun _ _ _ _ _ => @a2b _ _ 0 _ (show List.Nodup (["letter", "strands"] : List Str) by decide +kernel) rfl (Or.inl rfl) (Or.inr rfl)) (fun _ _ _ _ _ => a4E) (fun _ _ _ _ _ => (@a0m _ _ _ _ _ _ _ _ _ _ D_is_letter hr (@a0a _ _ _ _ _ (@hv _ 1 _ _ (by rfl) (by walk_at "3") (by decide) (by decide)) (@a0a _ _ _ _ _ (@hv _ 0 _ _ (by rfl) (by walk_at "3") (by decide) (by decide)) a0f (by rfl)) (by rfl)) (by rfl) (by decide) (by rfl) (by rfl))) (by intro _; rfl)) a0f (by rfl)) (by rfl) (by decide) (by decide) (by rfl) (by rfl))))), fun ts M Q h => ?_⟩
 unfold a3I at h
 split at h
 ·rename_i n w k
  obtain ⟨ws, rfl, hl, h⟩ := h
  unfold isWd at h
  walk_at "rd"
  refine ite2 (fun c1 => ite2 (fun c2 => ?_) fun c2 => ite2 (fun c3 => ?_) fun c3 => ?_) fun c1 => ?_
  ·rw [decide_eq_false c2, Bool.and_false, Bool.false_and] at h
   exact a0j h
  ·rw [decide_eq_false (show ¬ (ws.length : Int) ≤ k by lia), Bool.and_false, Bool.false_and] at h
   exact a0j h
  ·rw [decide_eq_true c1, decide_eq_true (show n ≤ 6 by lia), decide_eq_true (show (ws.length : Int) ≤ k by lia)] at h
   refine ⟨fun i ys M' => ys = ((ws.take i).map (a7C n)).map T.bl ∧ M' = M, ⟨rfl, rfl⟩, fun _ _ _ _ => trivial, Nat.lt_of_le_of_lt (by lia : ws.length ≤ 10000) (by decide), ?_, ?_⟩
   ·rintro i x ys M' hx ⟨rfl, rfl⟩
    obtain ⟨l, hl', rfl⟩ := a2D hx
    unfold a1V
    refine ⟨?_, rfl⟩
    rw [← a2f (a7C n) hl', List.map_append]; rfl
   ·rintro ys M' ⟨rfl, rfl⟩ p hp
    rw [List.take_length, a7X]
    refine a3x (M0 := M') ?_ (Sub.new hp)
    rw [List.all_map]
    exact h
  ·rw [decide_eq_false c1, Bool.false_and, Bool.false_and, Bool.false_and] at h
   exact a0j h
 ·exact h.elim
noncomputable def a3f : Sp3 := fun ts M Q => match ts with
 | [.tup [.int n, .tup w]] => ∃ ws : List Int, w = ws.map .int ∧ ws.length < 10000 ∧ Q (.bl (isPl n ws)) M
 | _ => False
theorem a8v {P : Program} {w : World} {K : PySem.W.Frag} {mg : Str → Option Value} {base : Heap} {f : Addr} {fd : FuncData} {n : Nat}  (F : Fun K "is_plait" "is_plait" a2r f fd) (hm : mg "is_plait" = some (.ref f)) (hb : a0Y K fd ["plait"] []) (Z : Zs K mg) (D_is_word : Df P w K mg base n "is_word" ["strands", "word", "most"] a3I) : Df P w K mg base (n + 1) "is_plait" ["plait"] a3f := by
 obtain ⟨tk_MOST_LETTERS, c_MOST_LETTERS⟩ := Z.c_MOST_LETTERS
 refine F.dfn hm hb a8m (by intro ts M Q h; unfold a3f at h; first | (split at h <;> first | rfl | exact h.elim) | (obtain ⟨_, _, _, _, _, rfl, _⟩ := h; rfl) | (obtain ⟨_, _, _, _, rfl, _⟩ := h; rfl) | (obtain ⟨_, _, _, rfl, _⟩ := h; rfl) | (obtain ⟨_, _, rfl, _⟩ := h; rfl) | (obtain ⟨_, rfl, _⟩ := h; rfl)) ⟨_, fun cdv A outer s H E hr => (@a0h _ _ _ (@a1a _ _ _ _ (@a0m _ _ _ _ _ _ _ _ _ _ D_is_word hr (@a0a _ _ _ _ _ (@h_ix _ _ _ _ _ _ (@hv _ 0 _ _ (by rfl) (by walk_at "3") (by decide) (by decide)) a0g (by intro _ _; rfl)) (@a0a _ _ _ _ _ (@h_ix _ _ _ _ _ _ (@hv _ 0 _ _ (by rfl) (by walk_at "3") (by decide) (by decide)) a0g (by intro _ _; rfl)) (@a0a _ _ _ _ _ (@a8M _ _ _ _ _ c_MOST_LETTERS (by rfl) (by decide)) a0f (by rfl)) (by rfl)) (by rfl)) (by rfl) (by decide) (by rfl) (by rfl)))), fun ts M Q h => ?_⟩
 unfold a3f at h
 split at h
 ·rename_i n w
  obtain ⟨ws, rfl, hl, h⟩ := h
  walk_at "rd"
  refine ⟨ws, rfl, hl, ?_⟩
  rw [b5u]
  exact a0j h
 ·exact h.elim
noncomputable def a3v : Sp3 := fun ts M Q => match ts with
 | [.tup [.int n, .tup w]] => ∃ ws : List Int, w = ws.map .int ∧ PlOK n ws ∧ Q (.int ws.length) M
 | _ => False
theorem b1x {P : Program} {w : World} {K : PySem.W.Frag} {mg : Str → Option Value} {base : Heap} {f : Addr} {fd : FuncData} {n : Nat}  (F : Fun K "looked" "looked" a3K f fd) (hm : mg "looked" = some (.ref f)) (hb : a0Y K fd ["plait"] []) (Z : Zs K mg) (D_is_plait : Df P w K mg base n "is_plait" ["plait"] a3f) : Df P w K mg base (n + 1) "looked" ["plait"] a3v := by
 refine F.dfn hm hb b0X (by intro ts M Q h; unfold a3v at h; first | (split at h <;> first | rfl | exact h.elim) | (obtain ⟨_, _, _, _, _, rfl, _⟩ := h; rfl) | (obtain ⟨_, _, _, _, rfl, _⟩ := h; rfl) | (obtain ⟨_, _, _, rfl, _⟩ := h; rfl) | (obtain ⟨_, _, rfl, _⟩ := h; rfl) | (obtain ⟨_, rfl, _⟩ := h; rfl)) ⟨_, fun cdv A outer s H E hr => (@a0c _ _ _ _ _ (@s_if _ _ _ _ _ _ _ _ (@a7E _ _ _ _ (@a3p _ _ _ (@a0m _ _ _ _ _ _ _ _ _ _ D_is_plait hr (@a0a _ _ _ _ _ (@hv _ 0 _ _ (by rfl) (by walk_at "3") (by decide) (by decide)) a0f (by rfl)) (by rfl) (by decide) (by rfl) (by rfl)) (by intro _; rfl))) (@a0h _ _ _ b1a) a2y) (@a0h _ _ _ (@a1a _ _ _ _ (@a0B _ _ _ _ _ _ _ _ _ a0E Z.b_len PySem.boot_len (@a0a _ _ _ _ _ (@h_ix _ _ _ _ _ _ (@hv _ 0 _ _ (by rfl) (by walk_at "3") (by decide) (by decide)) a0g (by intro _ _; rfl)) a0f (by rfl)) (by rfl) (by decide) (by decide) (by rfl) (by rfl))))), fun ts M Q h => ?_⟩
 unfold a3v at h
 split at h
 ·rename_i n w
  obtain ⟨ws, rfl, ok, h⟩ := h
  walk_at "rd"
  refine ⟨ws, rfl, by have := ok.2.2.1; lia, ?_⟩
  rw [ok.is]
  walk_at "rd"
  exact a0j (M := M) h
 ·exact h.elim
noncomputable def a1I : Sp3 := fun ts M Q => match ts with
 | [.int l] => Q (.int (sgI l)) M
 | _ => False
theorem b0j {P : Program} {w : World} {K : PySem.W.Frag} {mg : Str → Option Value} {base : Heap} {f : Addr} {fd : FuncData} {n : Nat}  (F : Fun K "sign_of" "sign_of" a2T f fd) (hm : mg "sign_of" = some (.ref f)) (hb : a0Y K fd ["letter"] []) (Z : Zs K mg)  : Df P w K mg base (n + 1) "sign_of" ["letter"] a1I := by
 refine F.dfn hm hb b0d (by intro ts M Q h; unfold a1I at h; first | (split at h <;> first | rfl | exact h.elim) | (obtain ⟨_, _, _, _, _, rfl, _⟩ := h; rfl) | (obtain ⟨_, _, _, _, rfl, _⟩ := h; rfl) | (obtain ⟨_, _, _, rfl, _⟩ := h; rfl) | (obtain ⟨_, _, rfl, _⟩ := h; rfl) | (obtain ⟨_, rfl, _⟩ := h; rfl)) ⟨_, fun cdv A outer s H E hr => (@a0c _ _ _ _ _ (@s_if _ _ _ _ _ _ _ _ (@a1X _ _ _ _ _ _ _ _ b1v (@hv _ 0 _ _ (by rfl) (by walk_at "3") (by decide) (by decide)) a0g (@a1C _ _ (by decide) (by decide))) (@a0h _ _ _ (@a1a _ _ _ _ (@h_un _ _ _ _ _ _ a2w a0g))) a2y) (@a0h _ _ _ (@a1a _ _ _ _ a0g))), fun ts M Q h => ?_⟩
 unfold a1I at h
 split at h
 ·rename_i l
  unfold sgI at h
  walk_at "rd"
  refine ite2 (fun c => ?_) (fun c => ?_)
  ·rw [if_pos c] at h; exact a0j h
  ·rw [if_neg c] at h; exact a0j h
 ·exact h.elim
noncomputable def a0M : Sp3 := fun ts M Q => match ts with
 | [.adr d] => ∃ m : Po, M d = some (.dk (dkI m)) ∧ (m.map Prod.fst).Nodup ∧ m.length < 64 ∧ Q (poT (norm m)) M
 | _ => False
theorem a4s {P : Program} {w : World} {K : PySem.W.Frag} {mg : Str → Option Value} {base : Heap} {f : Addr} {fd : FuncData} {n : Nat}  (F : Fun K "without_noughts" "without_noughts" a0z f fd) (hm : mg "without_noughts" = some (.ref f)) (hb : a0Y K fd ["counts"] []) (Z : Zs K mg)  : Df P w K mg base (n + 1) "without_noughts" ["counts"] a0M := by
 refine F.dfn hm hb a4o (by intro ts M Q h; unfold a0M at h; first | (split at h <;> first | rfl | exact h.elim) | (obtain ⟨_, _, _, _, _, rfl, _⟩ := h; rfl) | (obtain ⟨_, _, _, _, rfl, _⟩ := h; rfl) | (obtain ⟨_, _, _, rfl, _⟩ := h; rfl) | (obtain ⟨_, _, rfl, _⟩ := h; rfl) | (obtain ⟨_, rfl, _⟩ := h; rfl)) ⟨_, fun cdv A outer s H E hr => (@a0h _ _ _ (@a1a _ _ _ _ (@a3q _ _ _ _ _ _ _ _ _ a4e Z.b_tuple PyProof.Rows.boot_tuple (@a0a _ _ _ _ _ (@a7G _ _ _ _ _ _ _ _ _ _ _ _ _ _ rfl (@a3P _ _ _ _ (@a0B _ _ _ _ _ _ _ _ _ (@a6P _ rfl) Z.b_sorted PyProof.Rows.boot_sorted (@a0a _ _ _ _ _ (@hv _ 0 _ _ (by rfl) (by walk_at "3") (by decide) (by decide)) a0f (by rfl)) (by rfl) (by decide) (by decide) (by rfl) (by rfl))) (@a1H _ (a0b a0z) _ ["counts"] (["power", "counts"]) ([none, some 0]) (by decide +kernel) rfl rfl) a4f (fun _ _ _ _ _ => @a2b _ _ 0 _ (show List.Nodup (["power", "counts"] : List Str) by decide +kernel) rfl (Or.inl rfl) (Or.inr rfl)) (fun _ _ _ _ _ => b6a (@a1X _ _ _ _ _ _ _ _ (@b1u _ hr.units) (@b5D _ _ _ _ _ _ hr.units (@hv _ 1 _ _ (by rfl) (by walk_at "3") (by decide) (by decide)) (@hv _ 0 _ _ (by rfl) (by walk_at "3") (by decide) (by decide)) (by intro _ _; rfl)) a0g (@a1C _ _ (by decide) (by decide)))) (fun _ _ _ _ _ => (@a3a _ _ _ _ _ (@a0a _ _ _ _ _ (@hv _ 0 _ _ (by rfl) (by walk_at "3") (by decide) (by decide)) (@a0a _ _ _ _ _ (@b5D _ _ _ _ _ _ hr.units (@hv _ 1 _ _ (by rfl) (by walk_at "3") (by decide) (by decide)) (@hv _ 0 _ _ (by rfl) (by walk_at "3") (by decide) (by decide)) (by intro _ _; rfl)) a0f (by rfl)) (by rfl)))) (by intro _; rfl)) a0f (by rfl)) (by rfl) (by decide) (by decide) (by rfl) (by rfl)))), fun ts M Q h => ?_⟩
 unfold a0M at h
 split at h
 ·rename_i d
  obtain ⟨m, hd, hnd, h64, h⟩ := h
  walk_at "rd"
  rw [hd]
  dsimp only
  refine ⟨m.map Prod.fst, a4P m, by rw [List.length_map]; exact h64, fun ms hp hs r hr => ?_⟩
  have hS := Sub.new hr (o := MO.lst (ms.map T.int))
  have hM1 : (updM M r (MO.lst (ms.map T.int))) r = some (.lst (ms.map T.int)) := a0d
  have hd1 := hS _ _ hd
  generalize updM M r (MO.lst (ms.map T.int)) = M1 at hS hM1 hd1 ⊢
  have hml : ms.length < 64 := by rw [hp.length_eq, List.length_map]; exact h64
  refine ⟨fun i ys M' => ys = ((((ms.take i).filter fun k => decide (co m k ≠ 0)).map fun k => (k, co m k)).map prT) ∧ M' = M1, ⟨rfl, rfl⟩, ?_, a0C (by lia), ?_, ?_⟩
  ·rintro i ys M' ⟨_, rfl⟩
   exact hM1
  ·rintro i x ys M' hx ⟨rfl, rfl⟩
   obtain ⟨k, hx2, rfl⟩ := a2D hx
   have hk : k ∈ m.map Prod.fst := hp.mem_iff.mp (List.mem_of_getElem? hx2)
   have hv := a1s hnd hk
   rw [hd1]
   dsimp only
   refine ⟨.inl k, _, rfl, hv, rfl, by rw [a2P]; decide, ?_⟩
   have ht : ms.take (i + 1) = ms.take i ++ [k] := by rw [List.take_add_one, hx2]; rfl
   rw [a3D, ht, List.filter_append]
   by_cases c : co m k = 0
   ·rw [decide_eq_true c, if_neg (by decide)]
    refine ⟨?_, rfl⟩
    rw [List.filter_cons, if_neg (by simpa using c), List.filter_nil, List.append_nil]
   ·rw [decide_eq_false c, if_pos rfl]
    refine ⟨.inl k, _, rfl, hv, by decide, ?_, rfl⟩
    rw [List.filter_cons, if_pos (by simpa using c), List.filter_nil, List.map_append, List.map_append]; rfl
  ·rintro ys M' ⟨rfl, rfl⟩ q hq
   rw [List.take_length, a5f hnd hp hs]
   exact a3x h (hS.newr hq)
 ·exact h.elim
theorem a2u {m : Po} {L : List Int} (hn : (m.map Prod.fst).Nodup) (hs : ∀ x ∈ m, x.1 ∈ L) : m.length ≤ L.length := by
 have h1 : (m.map Prod.fst).length ≤ L.length := List.Nodup.length_le_of_subset hn fun k hk => by
  obtain ⟨x, hx, rfl⟩ := List.mem_map.mp hk
  exact hs x hx
 rwa [List.length_map] at h1
theorem a6k {k v : Int} {m : Po} {L : List Int} (hk : k ∈ L) (hs : ∀ x ∈ m, x.1 ∈ L) : ∀ x ∈ setP k v m, x.1 ∈ L := fun x hx => by
 have h1 : x.1 ∈ (setP k v m).map Prod.fst := List.mem_map.mpr ⟨x, hx, rfl⟩
 rw [a4n] at h1
 split at h1
 ·obtain ⟨y, hy, e⟩ := List.mem_map.mp h1
  rw [← e]; exact hs y hy
 ·rcases List.mem_append.mp h1 with z | z
  ·obtain ⟨y, hy, e⟩ := List.mem_map.mp z
   rw [← e]; exact hs y hy
  ·rw [List.mem_singleton.mp z]; exact hk
theorem a9s {p q : Po} (h : ∀ k, co p k = co q k) : norm p = norm q := a3O (a1G p) (a1G q) fun k => by rw [a2c, a2c, h]
noncomputable def a3h : Sp3 := fun ts M Q => match ts with
 | [.tup a, .tup b] => ∃ (p q : Po) (L : List Int), a = p.map prT ∧ b = q.map prT ∧ CanP p ∧ L.length < 64 ∧ (∀ x ∈ p, x.1 ∈ L) ∧ (∀ x ∈ q, x.1 ∈ L) ∧ q.length ≤ 5000 ∧ Q (poT (addP p q)) M
 | _ => False
theorem b3n {P : Program} {w : World} {K : PySem.W.Frag} {mg : Str → Option Value} {base : Heap} {f : Addr} {fd : FuncData} {n : Nat}  (F : Fun K "added" "added" a4x f fd) (hm : mg "added" = some (.ref f)) (hb : a0Y K fd ["one", "other"] []) (Z : Zs K mg) (D_without_noughts : Df P w K mg base n "without_noughts" ["counts"] a0M) : Df P w K mg base (n + 1) "added" ["one", "other"] a3h := by
 refine F.dfn hm hb a4M (by intro ts M Q h; unfold a3h at h; first | (split at h <;> first | rfl | exact h.elim) | (obtain ⟨_, _, _, _, _, rfl, _⟩ := h; rfl) | (obtain ⟨_, _, _, _, rfl, _⟩ := h; rfl) | (obtain ⟨_, _, _, rfl, _⟩ := h; rfl) | (obtain ⟨_, _, rfl, _⟩ := h; rfl) | (obtain ⟨_, rfl, _⟩ := h; rfl)) ⟨_, fun cdv A outer s H E hr => (@a0c _ _ _ _ _ (@a0D _ _ _ _ 2 _ _ (@a3q _ _ _ _ _ _ _ _ _ (@a8R _ rfl) Z.b_dict PyProof.Rows.boot_dict (@a0a _ _ _ _ _ (@hv _ 0 _ _ (by rfl) (by walk_at "3") (by decide) (by decide)) a0f (by rfl)) (by rfl) (by decide) (by decide) (by rfl) (by rfl)) a4M.nd (by rfl) (by walk_at "2") (by rfl) (by walk_at "4")) (@a0c _ _ _ _ _ (@a2H _ _ _ _ _ _ _ _ PassesOwn.never rfl (@a3P _ _ _ _ (@hv _ 1 _ _ (by rfl) (by walk_at "3") (by decide) (by decide))) (@a7H _ _ _ _ _ 2 rfl (@a1m _ _ _ _ _ (@a0J _ _ 3 _ a4M.nd (by rfl) (by walk_at "2") (by walk_at "4")) (@a1m _ _ _ _ _ (@a0J _ _ 4 _ a4M.nd (by rfl) (by walk_at "2") (by walk_at "4")) a4H (by rfl)) (by rfl)) (by rfl) (by rfl)) (@a0h _ _ _ (@b1b _ _ _ _ _ _ _ _ _ hr.units (@a0i _ _ _ _ _ _ _ _ a0r (@b1X _ _ _ _ _ _ _ _ _ hr.units (@hv _ 2 _ _ (by rfl) (by walk_at "3") (by decide) (by decide)) (@hv _ 3 _ _ (by rfl) (by walk_at "3") (by decide) (by decide)) a0g (by rfl) (by rfl) (by rfl) (by rfl)) (@hv _ 4 _ _ (by rfl) (by walk_at "3") (by decide) (by decide))) (@hv _ 2 _ _ (by rfl) (by walk_at "3") (by decide) (by decide)) (@hv _ 3 _ _ (by rfl) (by walk_at "3") (by decide) (by decide)) (by rfl))) (by intro _; rfl)) (@a0h _ _ _ (@a1a _ _ _ _ (@a0m _ _ _ _ _ _ _ _ _ _ D_without_noughts hr (@a0a _ _ _ _ _ (@hv _ 2 _ _ (by rfl) (by walk_at "3") (by decide) (by decide)) a0f (by rfl)) (by rfl) (by decide) (by rfl) (by rfl)))))), fun ts M Q h => ?_⟩
 unfold a3h at h
 split at h
 ·rename_i a b
  obtain ⟨p, q, L, rfl, rfl, hp, hL, hpL, hqL, hql, h⟩ := h
  have hnd0 : (p.map Prod.fst).Nodup := List.pairwise_map.mpr (hp.1.imp fun h z => Int.ne_of_lt h z)
  refine a0e fun K1 hK1 => ?_
  walk_at "rd"
  refine ⟨dkI p, (b3H p).symm, by rw [a4P]; exact List.pairwise_map.mpr (hnd0.imp fun h z => h (Sum.inl.inj z)), fun d hd => ?_⟩
  have hMd : (updM M d (MO.dk (dkI p))) d = some (.dk (dkI p)) := a0d
  have hS := Sub.new hd (o := MO.dk (dkI p))
  generalize updM M d (MO.dk (dkI p)) = M1 at hMd hS ⊢
  rw [hK1]; clear hK1
  refine a0e fun K2 hK2 => ?_
  refine a0K fun B hB => ?_
  unfold a2g
  walk_at "rd"
  refine ⟨fun i ρ M' => (∃ (x3 x4 : Option T), ρ = [some (T.tup (p.map prT)), some (T.tup (q.map prT)), some (T.adr d), x3, x4]) ∧ (∃ m : Po, M' d = some (.dk (dkI m)) ∧ (m.map Prod.fst).Nodup ∧ (∀ x ∈ m, x.1 ∈ L) ∧ ∀ k, co m k = co (p ++ q.take i) k) ∧ Sub M M', ⟨⟨_, _, rfl⟩, ⟨p, hMd, hnd0, hpL, fun k => by rw [List.take_zero, List.append_nil]⟩, hS⟩, fun _ _ _ _ => trivial, ?_, ?_⟩
  ·rintro i x ρ M' hx ⟨⟨x3, x4, rfl⟩, ⟨m, hm, hnd, hmL, hco⟩, hS1⟩
   obtain ⟨⟨y1, y2⟩, hx2, rfl⟩ : ∃ y, q[i]? = some y ∧ prT y = x := by
    rw [List.getElem?_map] at hx
    exact Option.map_eq_some_iff.mp hx
   have hyL := hqL _ (List.mem_of_getElem? hx2)
   unfold prT
   dsimp only
   rw [hB]; clear hB
   walk_at "rd"
   rw [hm]
   refine ⟨trivial, ?_⟩
   dsimp only
   refine ⟨.inl y1, rfl, ?_⟩
   rw [a4L y1 hnd]
   dsimp only
   have hml := a2u hnd hmL
   refine ⟨.inl y1, rfl, a0C (by rw [a4C]; lia), ⟨_, _, rfl⟩, ⟨setP y1 (co m y1 + y2) m, by rw [a4N hnd], a3L hnd, a6k hyL hmL, fun k => ?_⟩, hS1.updF hd⟩
   have ht : q.take (i + 1) = q.take i ++ [(y1, y2)] := by rw [List.take_add_one, hx2]; rfl
   rw [a5q y1 _ hnd, ht, ← List.append_assoc, a0X, ← hco]
   show _ = co m k + ((if y1 = k then y2 else 0) + 0)
   by_cases e : k = y1
   ·rw [if_pos e, if_pos e.symm, e]; lia
   ·rw [if_neg e, if_neg (fun z => e z.symm)]; lia
  ·rintro ρ M' ⟨⟨x3, x4, rfl⟩, ⟨m, hm, hnd, hmL, hco⟩, hS1⟩
   try rw [List.length_map] at hco
   rw [List.take_length] at hco
   rw [hK2]; clear hK2
   walk_at "rd"
   refine ⟨m, hm, hnd, Nat.lt_of_le_of_lt (a2u hnd hmL) hL, ?_⟩
   rw [a9s hco]
   exact a3x h hS1
 ·exact h.elim
noncomputable def a0N : Sp3 := fun ts M Q => match ts with
 | [.tup a, .tup b] => ∃ (p q : Po) (L : List Int), a = p.map prT ∧ b = q.map prT ∧ L.length < 64 ∧ (∀ x ∈ p, ∀ y ∈ q, x.1 + y.1 ∈ L) ∧ (Sml p ∨ Sml q) ∧ p.length ≤ 5000 ∧ q.length ≤ 5000 ∧ Q (poT (a1l p q)) M
 | _ => False
theorem b2V {p q : Po} {i : Nat} {x : Int × Int} (h : p[i]? = some x) (k : Int) : co (rawM (p.take (i + 1)) q) k = co (rawM (p.take i) q) k + co (q.map fun b => (x.1 + b.1, x.2 * b.2)) k := by
 rw [List.take_add_one, h]
 unfold rawM
 rw [List.flatMap_append, a0X]
 show _ + co ([x].flatMap fun a => q.map fun b => (a.1 + b.1, a.2 * b.2)) k = _
 rw [List.flatMap_cons, List.flatMap_nil, List.append_nil]
theorem a6u {P : Program} {w : World} {K : PySem.W.Frag} {mg : Str → Option Value} {base : Heap} {f : Addr} {fd : FuncData} {n : Nat}  (F : Fun K "multiplied" "multiplied" a1v f fd) (hm : mg "multiplied" = some (.ref f)) (hb : a0Y K fd ["one", "other"] []) (Z : Zs K mg) (D_without_noughts : Df P w K mg base n "without_noughts" ["counts"] a0M) : Df P w K mg base (n + 1) "multiplied" ["one", "other"] a0N := by
 refine F.dfn hm hb a0V (by intro ts M Q h; unfold a0N at h; first | (split at h <;> first | rfl | exact h.elim) | (obtain ⟨_, _, _, _, _, rfl, _⟩ := h; rfl) | (obtain ⟨_, _, _, _, rfl, _⟩ := h; rfl) | (obtain ⟨_, _, _, rfl, _⟩ := h; rfl) | (obtain ⟨_, _, rfl, _⟩ := h; rfl) | (obtain ⟨_, rfl, _⟩ := h; rfl)) ⟨_, fun cdv A outer s H E hr => (@a0c _ _ _ _ _ (@a0D _ _ _ _ 2 _ _ a9D a0V.nd (by rfl) (by walk_at "2") (by rfl) (by walk_at "4")) (@a0c _ _ _ _ _ (@a2H _ _ _ _ _ _ _ _ PassesOwn.never rfl (@a3P _ _ _ _ (@hv _ 0 _ _ (by rfl) (by walk_at "3") (by decide) (by decide))) (@a7H _ _ _ _ _ 2 rfl (@a1m _ _ _ _ _ (@a0J _ _ 3 _ a0V.nd (by rfl) (by walk_at "2") (by walk_at "4")) (@a1m _ _ _ _ _ (@a0J _ _ 4 _ a0V.nd (by rfl) (by walk_at "2") (by walk_at "4")) a4H (by rfl)) (by rfl)) (by rfl) (by rfl)) (@a0h _ _ _ (@a2H _ _ _ _ _ _ _ _ PassesOwn.never rfl (@a3P _ _ _ _ (@hv _ 1 _ _ (by rfl) (by walk_at "3") (by decide) (by decide))) (@a7H _ _ _ _ _ 2 rfl (@a1m _ _ _ _ _ (@a0J _ _ 5 _ a0V.nd (by rfl) (by walk_at "2") (by walk_at "4")) (@a1m _ _ _ _ _ (@a0J _ _ 6 _ a0V.nd (by rfl) (by walk_at "2") (by walk_at "4")) a4H (by rfl)) (by rfl)) (by rfl) (by rfl)) (@a0c _ _ _ _ _ (@a0D _ _ _ _ 7 _ _ (@a0i _ _ _ _ _ _ _ _ a0r (@hv _ 3 _ _ (by rfl) (by walk_at "3") (by decide) (by decide)) (@hv _ 5 _ _ (by rfl) (by walk_at "3") (by decide) (by decide))) a0V.nd (by rfl) (by walk_at "2") (by rfl) (by walk_at "4")) (@a0h _ _ _ (@b1b _ _ _ _ _ _ _ _ _ hr.units (@a0i _ _ _ _ _ _ _ _ a0r (@b1X _ _ _ _ _ _ _ _ _ hr.units (@hv _ 2 _ _ (by rfl) (by walk_at "3") (by decide) (by decide)) (@hv _ 7 _ _ (by rfl) (by walk_at "3") (by decide) (by decide)) a0g (by rfl) (by rfl) (by rfl) (by rfl)) (@a0i _ _ _ _ _ _ _ _ a1d (@hv _ 4 _ _ (by rfl) (by walk_at "3") (by decide) (by decide)) (@hv _ 6 _ _ (by rfl) (by walk_at "3") (by decide) (by decide)))) (@hv _ 2 _ _ (by rfl) (by walk_at "3") (by decide) (by decide)) (@hv _ 7 _ _ (by rfl) (by walk_at "3") (by decide) (by decide)) (by rfl)))) (by intro _; rfl))) (by intro _; rfl)) (@a0h _ _ _ (@a1a _ _ _ _ (@a0m _ _ _ _ _ _ _ _ _ _ D_without_noughts hr (@a0a _ _ _ _ _ (@hv _ 2 _ _ (by rfl) (by walk_at "3") (by decide) (by decide)) a0f (by rfl)) (by rfl) (by decide) (by rfl) (by rfl)))))), fun ts M Q h => ?_⟩
 unfold a0N at h
 split at h
 ·rename_i a b
  obtain ⟨p, q, L, rfl, rfl, hL, hpq, hsz, hpl, hql, h⟩ := h
  refine a0e fun K1 hK1 => ?_
  walk_at "rd"
  intro d hd
  have hMd : (updM M d (MO.dk [])) d = some (.dk (dkI [])) := a0d
  have hS := Sub.new hd (o := MO.dk [])
  generalize updM M d (MO.dk []) = M1 at hMd hS ⊢
  rw [hK1]; clear hK1
  refine a0e fun K2 hK2 => ?_
  refine a0K fun B hB => ?_
  unfold a2g
  walk_at "rd"
  refine ⟨fun i ρ M' => (∃ (x3 x4 x5 x6 x7 : Option T), ρ = [some (T.tup (p.map prT)), some (T.tup (q.map prT)), some (T.adr d), x3, x4, x5, x6, x7]) ∧ (∃ m : Po, M' d = some (.dk (dkI m)) ∧ (m.map Prod.fst).Nodup ∧ (∀ x ∈ m, x.1 ∈ L) ∧ ∀ k, co m k = co (rawM (p.take i) q) k) ∧ Sub M M', ⟨⟨_, _, _, _, _, rfl⟩, ⟨[], hMd, .nil, fun _ z => absurd z List.not_mem_nil, fun k => rfl⟩, hS⟩, fun _ _ _ _ => trivial, ?_, ?_⟩
  ·rintro i x ρ M' hx ⟨⟨x3, x4, x5, x6, x7, rfl⟩, ⟨m, hm, hnd, hmL, hco⟩, hS1⟩
   obtain ⟨⟨y1, y2⟩, hx2, rfl⟩ : ∃ y, p[i]? = some y ∧ prT y = x := by
    rw [List.getElem?_map] at hx
    exact Option.map_eq_some_iff.mp hx
   have hyp := List.mem_of_getElem? hx2
   rw [show prT (y1, y2) = T.tup [T.int y1, T.int y2] from rfl]
   dsimp only
   refine ⟨rfl, rfl, ?_⟩
   rw [hB]; clear hB
   refine a0K fun B2 hB2 => ?_
   unfold a2g
   walk_at "rd"
   refine ⟨fun j ρ M2 => (∃ (x5 x6 x7 : Option T), ρ = [some (T.tup (p.map prT)), some (T.tup (q.map prT)), some (T.adr d), some (T.int y1), some (T.int y2), x5, x6, x7]) ∧ (∃ m2 : Po, M2 d = some (.dk (dkI m2)) ∧ (m2.map Prod.fst).Nodup ∧ (∀ x ∈ m2, x.1 ∈ L) ∧ ∀ k, co m2 k = co m k + co ((q.take j).map fun b => (y1 + b.1, y2 * b.2)) k) ∧ Sub M M2, ⟨⟨_, _, _, rfl⟩, ⟨m, hm, hnd, hmL, fun k => by show _ = co m k + 0; rw [Int.add_zero]⟩, hS1⟩, fun _ _ _ _ => trivial, ?_, ?_⟩
   ·rintro j z ρ M2 hz ⟨⟨x5, x6, x7, rfl⟩, ⟨m2, hm2, hnd2, hmL2, hco2⟩, hS2⟩
    obtain ⟨⟨z1, z2⟩, hz2, rfl⟩ : ∃ y, q[j]? = some y ∧ prT y = z := by
     rw [List.getElem?_map] at hz
     exact Option.map_eq_some_iff.mp hz
    have hzL := hpq _ hyp _ (List.mem_of_getElem? hz2)
    have hy2 : CMul y2 z2 := by
     rcases hsz with s | s
     ·have := s _ hyp
      exact .inl ⟨by lia, by lia⟩
     ·have := s _ (List.mem_of_getElem? hz2)
      exact .inr ⟨by lia, by lia⟩
    dsimp only at hzL
    rw [show prT (z1, z2) = T.tup [T.int z1, T.int z2] from rfl]
    dsimp only
    refine ⟨rfl, rfl, ?_⟩
    rw [hB2]; clear hB2
    refine a0e fun K5 hK5 => ?_
    walk_at "rd"
    rw [hK5]; clear hK5
    walk_at "rd"
    rw [hm2]
    refine ⟨trivial, ?_⟩
    dsimp only
    refine ⟨.inl (y1 + z1), rfl, hy2, ?_⟩
    rw [a4L (y1 + z1) hnd2]
    dsimp only
    have hml := a2u hnd2 hmL2
    refine ⟨.inl (y1 + z1), rfl, a0C (by rw [a4C]; lia), ⟨_, _, _, rfl⟩, ⟨setP (y1 + z1) (co m2 (y1 + z1) + y2 * z2) m2, by rw [a4N hnd2], a3L hnd2, a6k hzL hmL2, fun k => ?_⟩, hS2.updF hd⟩
    have ht : q.take (j + 1) = q.take j ++ [(z1, z2)] := by rw [List.take_add_one, hz2]; rfl
    rw [a5q (y1 + z1) _ hnd2, ht, List.map_append, a0X, ← Int.add_assoc, ← hco2]
    show _ = co m2 k + ((if y1 + z1 = k then y2 * z2 else 0) + 0)
    by_cases e : k = y1 + z1
    ·rw [if_pos e, if_pos e.symm, e]; lia
    ·rw [if_neg e, if_neg (fun z => e z.symm)]; lia
   ·rintro ρ M2 ⟨⟨x5, x6, x7, rfl⟩, ⟨m2, hm2, hnd2, hmL2, hco2⟩, hS2⟩
    refine ⟨⟨_, _, _, _, _, rfl⟩, ⟨m2, hm2, hnd2, hmL2, fun k => ?_⟩, hS2⟩
    try rw [List.length_map] at hco2
    rw [List.take_length] at hco2
    rw [hco2 k, hco k, b2V hx2]
  ·rintro ρ M' ⟨⟨x3, x4, x5, x6, x7, rfl⟩, ⟨m, hm, hnd, hmL, hco⟩, hS1⟩
   try rw [List.length_map] at hco
   rw [List.take_length] at hco
   rw [hK2]; clear hK2
   walk_at "rd"
   refine ⟨m, hm, hnd, Nat.lt_of_le_of_lt (a2u hnd hmL) hL, ?_⟩
   have e := a9s hco
   rw [e]
   exact a3x h hS1
 ·exact h.elim
theorem a2Y {a b : Nat} {p q : Po} {M : MH} {Q : VK3} (hp : GdE a p) (hq : GdE b q) (hab : a + b ≤ 62) (hB : Sml p ∨ Sml q) (h : Q (poT (a1l p q)) M) : a0N [poT p, poT q] M Q :=
 ⟨p, q, stpE (a + b), rfl, rfl, by rw [a4k]; lia, fun x hx y hy => a3n (hp.2.sum hq.2 hx hy), hB, by have := hp.len; lia, by have := hq.len; lia, h⟩
theorem a5w {a : Nat} {p q : Po} {M : MH} {Q : VK3} (hp : GdE a p) (hq : GdE a q) (ha : a ≤ 62) (h : Q (poT (addP p q)) M) : a3h [poT p, poT q] M Q :=
 ⟨p, q, stpE a, rfl, rfl, hp.1, by rw [a4k]; lia, fun x hx => a3n (hp.2 x hx), fun x hx => a3n (hq.2 x hx), by have := hq.len; lia, h⟩
theorem b0C {c : TT3} {b : TS3} {D : Ends3} {ρ : En} {M : MH} (h : ∀ B : TS3, B = b → a4S c B D ρ M) : a4S c b D ρ M := h _ rfl
noncomputable def a1n : Sp3 := fun ts M Q => match ts with
 | [.int m] => ∃ k : Nat, m = k ∧ 1 ≤ k ∧ k ≤ 22 ∧ ∀ (r : Addr) (M' : MH), M r = none → Sub M M' → M' r = some (.lst ((lwL k).map poT)) → Q (.adr r) M'
 | _ => False
theorem a5z {P : Program} {w : World} {K : PySem.W.Frag} {mg : Str → Option Value} {base : Heap} {f : Addr} {fd : FuncData} {n : Nat}  (F : Fun K "loop_worths" "loop_worths" a1h f fd) (hm : mg "loop_worths" = some (.ref f)) (hb : a0Y K fd ["most"] []) (Z : Zs K mg) (D_multiplied : Df P w K mg base n "multiplied" ["one", "other"] a0N) : Df P w K mg base (n + 1) "loop_worths" ["most"] a1n := by
 obtain ⟨tk_NOUGHT, c_NOUGHT⟩ := Z.c_NOUGHT
 obtain ⟨tk_ONE, c_ONE⟩ := Z.c_ONE
 obtain ⟨tk_LOOP, c_LOOP⟩ := Z.c_LOOP
 refine F.dfn hm hb a3S (by intro ts M Q h; unfold a1n at h; first | (split at h <;> first | rfl | exact h.elim) | (obtain ⟨_, _, _, _, _, rfl, _⟩ := h; rfl) | (obtain ⟨_, _, _, _, rfl, _⟩ := h; rfl) | (obtain ⟨_, _, _, rfl, _⟩ := h; rfl) | (obtain ⟨_, _, rfl, _⟩ := h; rfl) | (obtain ⟨_, rfl, _⟩ := h; rfl)) ⟨_, fun cdv A outer s H E hr => (@a0c _ _ _ _ _ (@a0D _ _ _ _ 1 _ _ (@a5F _ _ _ _ (@a0a _ _ _ _ _ (@a3B _ _ _ _ _ c_NOUGHT (by rfl) (by decide)) (@a0a _ _ _ _ _ (@a3B _ _ _ _ _ c_ONE (by rfl) (by decide)) a0f (by rfl)) (by rfl))) a3S.nd (by rfl) (by walk_at "2") (by rfl) (by walk_at "4")) (@a0c _ _ _ _ _ (@b0Z _ _ _ _ _ _ PassesOwn.never (@a1X _ _ _ _ _ _ _ _ a9q (@a0B _ _ _ _ _ _ _ _ _ a0E Z.b_len PySem.boot_len (@a0a _ _ _ _ _ (@hv _ 1 _ _ (by rfl) (by walk_at "3") (by decide) (by decide)) a0f (by rfl)) (by rfl) (by decide) (by decide) (by rfl) (by rfl)) (@hv _ 0 _ _ (by rfl) (by walk_at "3") (by decide) (by decide)) (@a1C _ _ (by decide) (by decide))) (@a0h _ _ _ (@a2U _ _ _ _ (@a2v _ _ _ _ _ _ _ _ (@hv _ 1 _ _ (by rfl) (by walk_at "3") (by decide) (by decide)) (@a0a _ _ _ _ _ (@a0m _ _ _ _ _ _ _ _ _ _ D_multiplied hr (@a0a _ _ _ _ _ (@h_ix _ _ _ _ _ _ (@hv _ 1 _ _ (by rfl) (by walk_at "3") (by decide) (by decide)) (@h_un _ _ _ _ _ _ a2w a0g) (by intro _ _; rfl)) (@a0a _ _ _ _ _ (@a3B _ _ _ _ _ c_LOOP (by rfl) (by decide)) a0f (by rfl)) (by rfl)) (by rfl) (by decide) (by rfl) (by rfl)) a0f (by rfl)) (by rfl) (by rfl) (by rfl) (by rfl) (by rfl)) (by rfl)))) (@a0h _ _ _ (@a1a _ _ _ _ (@hv _ 1 _ _ (by rfl) (by walk_at "3") (by decide) (by decide)))))), fun ts M Q h => ?_⟩
 unfold a1n at h
 split at h
 ·rename_i m
  obtain ⟨k, rfl, k1, k22, h⟩ := h
  refine a0e fun K1 hK1 => ?_
  walk_at "rd"
  refine ⟨by decide, fun p hp => ?_⟩
  have hMp : (updM M p (MO.lst [T.tup [], T.tup [T.tup [T.int 0, T.int 1]]])) p = some (.lst ((lwL 1).map poT)) := a0d
  have hS := Sub.new hp (o := MO.lst [T.tup [], T.tup [T.tup [T.int 0, T.int 1]]])
  generalize updM M p (MO.lst [T.tup [], T.tup [T.tup [T.int 0, T.int 1]]]) = M1 at hMp hS ⊢
  rw [hK1]; clear hK1
  refine a0e fun K2 hK2 => ?_
  refine b0C fun B hB => ?_
  unfold a4S
  refine ⟨fun i ρ M' => ∃ j : Nat, 1 ≤ j ∧ j ≤ k ∧ i + j = k ∧ ρ = [some (T.int k), some (T.adr p)] ∧ M' p = some (.lst ((lwL j).map poT)) ∧ Sub M M', ⟨k - 1, 1, by lia, k1, by lia, rfl, hMp, hS⟩, ?_⟩
  rintro i ρ M' ⟨j, j1, jk, ij, rfl, hMj, hS1⟩
  walk_at "rd"
  rw [hMj]
  dsimp only
  rw [List.length_map, b1F]
  refine ite2 (fun c => ?_) (fun c => ?_)
  ·have hj : j < k := by lia
   rw [hB]; clear hB
   walk_at "rd"
   rw [hMj]
   dsimp only
   obtain ⟨t, ht⟩ : ∃ t, j = t + 1 := ⟨j - 1, by lia⟩
   have e0 : atI ((lwL j).map poT) (-1) = some (poT (dP t)) := by
    rw [ht, a9w, List.map_append]
    exact b3K _ _
   rw [e0]
   dsimp only
   have hg := a4c t
   refine ⟨trivial, a2Y (q := lpP) hg GdE.lp (by lia) (.inr Sml.lp) ?_⟩
   rw [hMj]
   dsimp only
   have e1 : (lwL j).map poT ++ [poT (a1l (dP t) lpP)] = (lwL (j + 1)).map poT := by rw [a9w, List.map_append, ht]; rfl
   rw [e1]
   exact ⟨a0C (by rw [List.length_map, b1F]; lia), k - (j + 1), by lia, j + 1, by lia, by lia, by lia, rfl, hS1.updF hp⟩
  ·rw [hK2]
   walk_at "rd"
   have e : j = k := by lia
   subst e
   exact a0j (h p M' hp hS1 hMj)
 ·exact h.elim
noncomputable def st1T (s : St1) : T := .tup [.int s.1, .tup ((nI s.2).map .int)]
theorem a8l {S : List St1} {i : Nat} {x : T} (h : (S.map st1T)[i]? = some x) : ∃ s, S[i]? = some s ∧ x = .tup [.int s.1, .tup ((nI s.2).map .int)] := by
 rw [List.getElem?_map] at h
 cases e : S[i]? with
 | none => rw [e] at h; cases h
 | some s => rw [e] at h; exact ⟨s, rfl, (Option.some.inj h).symm⟩
noncomputable def a2J : Sp3 := fun ts M Q => match ts with
 | [.tup w] => ∃ ws : List Int, w = ws.map .int ∧ ws.length ≤ 10 ∧ (∀ l ∈ ws, l.natAbs ≤ 6) ∧ ∀ (r : Addr) (M' : MH), M r = none → Sub M M' → M' r = some (.lst ((stsL ws).map st1T)) → Q (.adr r) M'
 | _ => False
theorem a7i {P : Program} {w : World} {K : PySem.W.Frag} {mg : Str → Option Value} {base : Heap} {f : Addr} {fd : FuncData} {n : Nat}  (F : Fun K "states_of" "states_of" a1c f fd) (hm : mg "states_of" = some (.ref f)) (hb : a0Y K fd ["word"] []) (Z : Zs K mg) (D_sign_of : Df P w K mg base n "sign_of" ["letter"] a1I) : Df P w K mg base (n + 1) "states_of" ["word"] a2J := by
 refine F.dfn hm hb a1t (by intro ts M Q h; unfold a2J at h; first | (split at h <;> first | rfl | exact h.elim) | (obtain ⟨_, _, _, _, _, rfl, _⟩ := h; rfl) | (obtain ⟨_, _, _, _, rfl, _⟩ := h; rfl) | (obtain ⟨_, _, _, rfl, _⟩ := h; rfl) | (obtain ⟨_, _, rfl, _⟩ := h; rfl) | (obtain ⟨_, rfl, _⟩ := h; rfl)) ⟨_, fun cdv A outer s H E hr => (@a0c _ _ _ _ _ (@a0D _ _ _ _ 1 _ _ (@a5F _ _ _ _ (@a1Q _ _ _ _ _ _ _ (@a3a _ _ _ _ _ (@a0a _ _ _ _ _ a0g (@a1Q _ _ _ _ _ _ _ (@a3a _ _ _ _ _ a0f) a0f) (by rfl))) a0f)) a1t.nd (by rfl) (by walk_at "2") (by rfl) (by walk_at "4")) (@a0c _ _ _ _ _ (@a2H _ _ _ _ _ _ _ _ PassesOwn.never rfl (@a3P _ _ _ _ (@hv _ 0 _ _ (by rfl) (by walk_at "3") (by decide) (by decide))) (@a0J _ _ 2 _ a1t.nd (by rfl) (by walk_at "2") (by walk_at "4")) (@a0c _ _ _ _ _ (@a0D _ _ _ _ 3 _ _ (@a0m _ _ _ _ _ _ _ _ _ _ D_sign_of hr (@a0a _ _ _ _ _ (@hv _ 2 _ _ (by rfl) (by walk_at "3") (by decide) (by decide)) a0f (by rfl)) (by rfl) (by decide) (by rfl) (by rfl)) a1t.nd (by rfl) (by walk_at "2") (by rfl) (by walk_at "4")) (@a0c _ _ _ _ _ (@a9e _ _ _ _ _ _ _ _ _ _ _ _ _ _ 4 _ _ _ rfl (@a3P _ _ _ _ (@hv _ 1 _ _ (by rfl) (by walk_at "3") (by decide) (by decide))) (@a1H _ (a0b a1c) _ (["word", "states", "letter", "sign", "straight"]) (["power", "hooked", "sign"]) ([none, none, some 3]) (by decide +kernel) rfl rfl) b2A (fun _ _ _ _ _ => b1m rfl (@a4r _ _ _ _ _ (@a2b _ _ 0 _ (show List.Nodup (["power", "hooked", "sign"] : List Str) by decide +kernel) rfl (Or.inl rfl) (Or.inr rfl)) (@a4r _ _ _ _ _ (@a2b _ _ 1 _ (show List.Nodup (["power", "hooked", "sign"] : List Str) by decide +kernel) rfl (Or.inl rfl) (Or.inr rfl)) a8t (by rfl)) (by rfl))) (fun _ _ _ _ _ => a4E) (fun _ _ _ _ _ => (@a3a _ _ _ _ _ (@a0a _ _ _ _ _ (@a0i _ _ _ _ _ _ _ _ a0r (@hv _ 0 _ _ (by rfl) (by walk_at "3") (by decide) (by decide)) (@hv _ 2 _ _ (by rfl) (by walk_at "3") (by decide) (by decide))) (@a0a _ _ _ _ _ (@hv _ 1 _ _ (by rfl) (by walk_at "3") (by decide) (by decide)) a0f (by rfl)) (by rfl)))) a1t.nd (by rfl) (by walk_at "2") (by rfl) (by intro _; rfl) (by walk_at "4")) (@a0h _ _ _ (@a0D _ _ _ _ 1 _ _ (@a0i _ _ _ _ _ _ _ _ a0r (@hv _ 4 _ _ (by rfl) (by walk_at "3") (by decide) (by decide)) (@a7G _ _ _ _ _ _ _ _ _ _ _ _ _ _ rfl (@a3P _ _ _ _ (@hv _ 1 _ _ (by rfl) (by walk_at "3") (by decide) (by decide))) (@a1H _ (a0b a1c) _ (["word", "states", "letter", "sign", "straight"]) (["power", "hooked", "sign", "letter"]) ([none, none, some 3, some 2]) (by decide +kernel) rfl rfl) b2A (fun _ _ _ _ _ => b1m rfl (@a4r _ _ _ _ _ (@a2b _ _ 0 _ (show List.Nodup (["power", "hooked", "sign", "letter"] : List Str) by decide +kernel) rfl (Or.inl rfl) (Or.inr rfl)) (@a4r _ _ _ _ _ (@a2b _ _ 1 _ (show List.Nodup (["power", "hooked", "sign", "letter"] : List Str) by decide +kernel) rfl (Or.inl rfl) (Or.inr rfl)) a8t (by rfl)) (by rfl))) (fun _ _ _ _ _ => a4E) (fun _ _ _ _ _ => (@a3a _ _ _ _ _ (@a0a _ _ _ _ _ (@a0i _ _ _ _ _ _ _ _ a1E (@hv _ 0 _ _ (by rfl) (by walk_at "3") (by decide) (by decide)) (@hv _ 2 _ _ (by rfl) (by walk_at "3") (by decide) (by decide))) (@a0a _ _ _ _ _ (@a0i _ _ _ _ _ _ _ _ a0r (@hv _ 1 _ _ (by rfl) (by walk_at "3") (by decide) (by decide)) (@a3a _ _ _ _ _ (@a0a _ _ _ _ _ (@a0B _ _ _ _ _ _ _ _ _ a3H Z.b_abs PyProof.Rows.boot_abs (@a0a _ _ _ _ _ (@hv _ 3 _ _ (by rfl) (by walk_at "3") (by decide) (by decide)) a0f (by rfl)) (by rfl) (by decide) (by decide) (by rfl) (by rfl)) a0f (by rfl)))) a0f (by rfl)) (by rfl)))) (by intro _; rfl))) a1t.nd (by rfl) (by walk_at "2") (by rfl) (by walk_at "4"))))) (by intro _; rfl)) (@a0h _ _ _ (@a1a _ _ _ _ (@hv _ 1 _ _ (by rfl) (by walk_at "3") (by decide) (by decide)))))), fun ts M Q h => ?_⟩
 unfold a2J at h
 split at h
 ·rename_i w
  obtain ⟨ws, rfl, hl, h6, h⟩ := h
  refine a0e fun K1 hK1 => ?_
  walk_at "rd"
  refine ⟨by decide, by decide, fun p hp => ?_⟩
  have hMp : (updM M p (MO.lst [T.tup [T.int 0, T.tup []]])) p = some (.lst ((stsL []).map st1T)) := a0d
  have hS := Sub.new hp (o := MO.lst [T.tup [T.int 0, T.tup []]])
  generalize updM M p (MO.lst [T.tup [T.int 0, T.tup []]]) = M1 at hMp hS ⊢
  rw [hK1]; clear hK1
  refine a0e fun K2 hK2 => ?_
  refine a0K fun B hB => ?_
  unfold a2g
  walk_at "rd"
  refine ⟨fun i ρ M' => (∃ (q : Addr) (x2 x3 x4 : Option T), ρ = [some (T.tup (ws.map .int)), some (T.adr q), x2, x3, x4] ∧ M q = none ∧ M' q = some (.lst ((stsL (ws.take i)).map st1T))) ∧ Sub M M', ⟨⟨p, _, _, _, rfl, hp, hMp⟩, hS⟩, fun _ _ _ _ => trivial, ?_, ?_⟩
  ·rintro i x ρ M' hx ⟨⟨q, x2, x3, x4, rfl, hq, hMq⟩, hS1⟩
   obtain ⟨l, hl1, rfl⟩ := a2D hx
   have hlm := List.mem_of_getElem? hl1
   have hi := (List.getElem?_eq_some_iff.mp hl1).1
   have ht : stsL (ws.take (i + 1)) = stpS l (stsL (ws.take i)) := by
    rw [List.take_add_one, hl1]
    unfold stsL
    rw [List.foldl_append]; rfl
   have hsl : (stsL (ws.take i)).length ≤ 512 := by
    rw [a8i, List.length_take]
    exact Nat.pow_le_pow_right (by decide) (by lia : min i ws.length ≤ 9)
   have hsm := b0N (w := ws.take i)
   have h9 : (ws.take i).length ≤ 9 := by rw [List.length_take]; lia
   rw [hB]; clear hB
   refine a0e fun K3 hK3 => ?_
   walk_at "rd"
   rw [hK3]; clear hK3
   unfold a1I
   dsimp only
   refine a0e fun K4 hK4 => ?_
   walk_at "rd"
   rw [hMq]
   dsimp only
   have hsz : ((stsL (ws.take i)).map st1T).length < sizeLine := a0C (by rw [List.length_map]; lia)
   refine ⟨fun j ys M2 => ys = (((stsL (ws.take i)).take j).map fun s => (s.1 + sgI l, s.2)).map st1T ∧ M2 = M', ⟨rfl, rfl⟩, ?_, hsz, ?_, ?_⟩
   ·rintro j ys M2 ⟨_, rfl⟩
    exact hMq
   ·rintro j x ys M2 hx ⟨rfl, rfl⟩
    obtain ⟨s, hs, rfl⟩ := a8l hx
    dsimp only
    refine ⟨rfl, rfl, by decide, ?_, rfl⟩
    rw [← a2f (fun s : St1 => (s.1 + sgI l, s.2)) hs, List.map_append]; rfl
   ·rintro ys M2 ⟨rfl, rfl⟩ a ha
    rw [List.length_map, List.take_length]
    have hX := Sub.new ha (o := MO.lst (((stsL (ws.take i)).map fun s => (s.1 + sgI l, s.2)).map st1T))
    have hMq2 := hX _ _ hMq
    have hS2 := hS1.trans hX
    have hMa : (updM M2 a (MO.lst (((stsL (ws.take i)).map fun s => (s.1 + sgI l, s.2)).map st1T))) a = some (MO.lst (((stsL (ws.take i)).map fun s => (s.1 + sgI l, s.2)).map st1T)) := a0d
    generalize updM M2 a (MO.lst (((stsL (ws.take i)).map fun s => (s.1 + sgI l, s.2)).map st1T)) = M3 at hMq2 hS2 hMa ⊢
    rw [hK4]; clear hK4
    walk_at "rd"
    rw [hMq2]
    dsimp only
    refine ⟨fun j ys M4 => ys = (((stsL (ws.take i)).take j).map fun s => (s.1 - sgI l, s.2 ++ [l.natAbs])).map st1T ∧ M4 = M3, ⟨rfl, rfl⟩, ?_, hsz, ?_, ?_⟩
    ·rintro j ys M4 ⟨_, rfl⟩
     exact hMq2
    ·rintro j x ys M4 hx ⟨rfl, rfl⟩
     obtain ⟨s, hs, rfl⟩ := a8l hx
     have hs9 := (hsm s (List.mem_of_getElem? hs)).1
     dsimp only
     have hz1 : ((nI s.2).map T.int).length + 1 ≤ sizeLine := a5h (by rw [List.length_map]; unfold nI; rw [List.length_map]; lia)
     refine ⟨rfl, rfl, by decide, ?_⟩
     refine ⟨hz1, by decide, ?_, rfl⟩
     rw [← a2f (fun s : St1 => (s.1 - sgI l, s.2 ++ [l.natAbs])) hs, List.map_append]
     show _ = _ ++ [T.tup [T.int (s.1 - sgI l), T.tup ((nI (s.2 ++ [l.natAbs])).map .int)]]
     rw [show nI (s.2 ++ [l.natAbs]) = nI s.2 ++ [((l.natAbs : Nat) : Int)] from List.map_append, List.map_append]; rfl
    ·rintro ys M4 ⟨rfl, rfl⟩ b hb
     rw [List.length_map, List.take_length]
     have hX := Sub.new hb (o := MO.lst (((stsL (ws.take i)).map fun s => (s.1 - sgI l, s.2 ++ [l.natAbs])).map st1T))
     have hMa2 := hX _ _ hMa
     have hS3 := hS2.trans hX
     have hMb : (updM M4 b (MO.lst (((stsL (ws.take i)).map fun s => (s.1 - sgI l, s.2 ++ [l.natAbs])).map st1T))) b = some (MO.lst (((stsL (ws.take i)).map fun s => (s.1 - sgI l, s.2 ++ [l.natAbs])).map st1T)) := a0d
     generalize updM M4 b (MO.lst (((stsL (ws.take i)).map fun s => (s.1 - sgI l, s.2 ++ [l.natAbs])).map st1T)) = M5 at hMa2 hS3 hMb ⊢
     rw [hMa2]
     dsimp only
     refine ⟨a5h (by rw [List.length_map, List.length_map, List.length_map, List.length_map]; lia), fun r hr => ?_⟩
     refine ⟨⟨r, _, _, _, rfl, a5g hS3 hr, ?_⟩, hS3.newr hr⟩
     rw [a0d, ← List.map_append, ht]; rfl
  ·rintro ρ M' ⟨⟨q, x2, x3, x4, rfl, hq, hMq⟩, hS1⟩
   rw [hK2]
   walk_at "rd"
   try rw [List.length_map] at hMq
   rw [List.take_length] at hMq
   exact a0j (h q M' hq hS1 hMq)
 ·exact h.elim
noncomputable def a4m : Sp3 := fun ts M Q => match ts with
 | [.adr d, .int a, .int b] => ∃ (mk : List Nat) (i j : Nat), M d = some (.lst (natT mk)) ∧ a = i ∧ b = j ∧ i < mk.length ∧ j < mk.length ∧ mk.length ≤ 40 ∧ ∀ (r : Addr) (M' : MH), M r = none → Sub M M' → M' r = some (.lst (natT (asO mk i j))) → Q (.adr r) M'
 | _ => False
theorem b1y {P : Program} {w : World} {K : PySem.W.Frag} {mg : Str → Option Value} {base : Heap} {f : Addr} {fd : FuncData} {n : Nat}  (F : Fun K "as_one" "as_one" a3k f fd) (hm : mg "as_one" = some (.ref f)) (hb : a0Y K fd ["marks", "one", "other"] []) (Z : Zs K mg)  : Df P w K mg base (n + 1) "as_one" ["marks", "one", "other"] a4m := by
 refine F.dfn hm hb b0Y (by intro ts M Q h; unfold a4m at h; first | (split at h <;> first | rfl | exact h.elim) | (obtain ⟨_, _, _, _, _, rfl, _⟩ := h; rfl) | (obtain ⟨_, _, _, _, rfl, _⟩ := h; rfl) | (obtain ⟨_, _, _, rfl, _⟩ := h; rfl) | (obtain ⟨_, _, rfl, _⟩ := h; rfl) | (obtain ⟨_, rfl, _⟩ := h; rfl)) ⟨_, fun cdv A outer s H E hr => (@a0h _ _ _ (@a1a _ _ _ _ (@a7G _ _ _ _ _ _ _ _ _ _ _ _ _ _ rfl (@a3P _ _ _ _ (@hv _ 0 _ _ (by rfl) (by walk_at "3") (by decide) (by decide))) (@a1H _ (a0b a3k) _ (["marks", "one", "other"]) (["mark", "marks", "other", "one"]) ([none, some 0, some 2, some 1]) (by decide +kernel) rfl rfl) a4f (fun _ _ _ _ _ => @a2b _ _ 0 _ (show List.Nodup (["mark", "marks", "other", "one"] : List Str) by decide +kernel) rfl (Or.inl rfl) (Or.inr rfl)) (fun _ _ _ _ _ => a4E) (fun _ _ _ _ _ => (@b8D _ _ _ _ _ _ _ _ (@a1X _ _ _ _ _ _ _ _ (@a5e _ hr.units) (@hv _ 0 _ _ (by rfl) (by walk_at "3") (by decide) (by decide)) (@h_ix _ _ _ _ _ _ (@hv _ 1 _ _ (by rfl) (by walk_at "3") (by decide) (by decide)) (@hv _ 2 _ _ (by rfl) (by walk_at "3") (by decide) (by decide)) (by intro _ _; rfl)) (@a1C _ _ (by decide) (by decide))) (@h_ix _ _ _ _ _ _ (@hv _ 1 _ _ (by rfl) (by walk_at "3") (by decide) (by decide)) (@hv _ 3 _ _ (by rfl) (by walk_at "3") (by decide) (by decide)) (by intro _ _; rfl)) (@hv _ 0 _ _ (by rfl) (by walk_at "3") (by decide) (by decide)))) (by intro _; rfl)))), fun ts M Q h => ?_⟩
 unfold a4m at h
 split at h
 ·rename_i d a b
  obtain ⟨mk, i, j, hd, rfl, rfl, hi, hj, h40, h⟩ := h
  walk_at "rd"
  rw [hd]
  dsimp only
  refine ⟨fun k ys M' => ys = natT ((asO mk i j).take k) ∧ M' = M, ⟨rfl, rfl⟩, ?_, by rw [a1F]; exact a0C (by lia), ?_, ?_⟩
  ·rintro k ys M' ⟨_, rfl⟩
   exact hd
  ·rintro k x ys M' hx ⟨rfl, rfl⟩
   obtain ⟨m, hm, rfl⟩ := a6D hx
   rw [hd]
   dsimp only
   rw [a3m hj, a3m hi]
   dsimp only
   have ea : (asO mk i j)[k]? = some (if m = mk.getD j 0 then mk.getD i 0 else m) := by unfold asO; rw [List.getElem?_map, hm]; rfl
   have et : (asO mk i j).take (k + 1) = (asO mk i j).take k ++ [if m = mk.getD j 0 then mk.getD i 0 else m] := by rw [List.take_add_one, ea]; rfl
   rw [et]
   have en : ∀ (l : List Nat) (y : Nat), natT (l ++ [y]) = natT l ++ [.int (y : Nat)] := fun l y => by unfold natT nI; rw [List.map_append, List.map_append]; rfl
   rw [en]
   refine ⟨by rw [a2B], by rw [a2B], by rw [a2P]; decide, ?_⟩
   rw [a3D]
   by_cases c : m = mk.getD j 0
   ·rw [if_pos c, if_pos (decide_eq_true (by rw [c]))]; exact ⟨rfl, rfl⟩
   ·rw [if_neg c, if_neg (by rw [decide_eq_true_eq]; lia)]; exact ⟨rfl, rfl⟩
  ·rintro ys M' ⟨rfl, rfl⟩ r hr
   rw [a1F, List.take_of_length_le (by rw [a1P]; exact Nat.le_refl _)]
   exact a0j (h r _ hr (Sub.new hr) a0d)
 ·exact h.elim
noncomputable def a1f : Sp3 := fun ts M Q => match ts with
 | [.int n, .tup h] => ∃ (m : Nat) (hs : List Nat), n = m ∧ h = natT hs ∧ Cm m ∧ hs.length ≤ 20 ∧ (∀ i ∈ hs, 1 ≤ i ∧ i < m) ∧ ∀ M', Sub M M' → Q (.int (lpH m hs : Nat)) M'
 | _ => False
theorem a4z {P : Program} {w : World} {K : PySem.W.Frag} {mg : Str → Option Value} {base : Heap} {f : Addr} {fd : FuncData} {n : Nat}  (F : Fun K "loops_of_state" "loops_of_state" a0L f fd) (hm : mg "loops_of_state" = some (.ref f)) (hb : a0Y K fd ["strands", "hooked"] []) (Z : Zs K mg) (D_as_one : Df P w K mg base n "as_one" ["marks", "one", "other"] a4m) : Df P w K mg base (n + 1) "loops_of_state" ["strands", "hooked"] a1f := by
 refine F.dfn hm hb a0y (by intro ts M Q h; unfold a1f at h; first | (split at h <;> first | rfl | exact h.elim) | (obtain ⟨_, _, _, _, _, rfl, _⟩ := h; rfl) | (obtain ⟨_, _, _, _, rfl, _⟩ := h; rfl) | (obtain ⟨_, _, _, rfl, _⟩ := h; rfl) | (obtain ⟨_, _, rfl, _⟩ := h; rfl) | (obtain ⟨_, rfl, _⟩ := h; rfl)) ⟨_, fun cdv A outer s H E hr => (@a0c _ _ _ _ _ (@a0D _ _ _ _ 2 _ _ (@a3A _ _ _ _ _ _ _ Z.b_list Z.b_range (@a0a _ _ _ _ _ (@hv _ 0 _ _ (by rfl) (by walk_at "3") (by decide) (by decide)) a0f (by rfl)) (by rfl) (by rfl) (by rfl) (by rfl) (by rfl)) a0y.nd (by rfl) (by walk_at "2") (by rfl) (by walk_at "4")) (@a0c _ _ _ _ _ (@a0D _ _ _ _ 3 _ _ (@a3A _ _ _ _ _ _ _ Z.b_list Z.b_range (@a0a _ _ _ _ _ (@hv _ 0 _ _ (by rfl) (by walk_at "3") (by decide) (by decide)) a0f (by rfl)) (by rfl) (by rfl) (by rfl) (by rfl) (by rfl)) a0y.nd (by rfl) (by walk_at "2") (by rfl) (by walk_at "4")) (@a0c _ _ _ _ _ (@a2H _ _ _ _ _ _ _ _ PassesOwn.never rfl (@a3P _ _ _ _ (@hv _ 1 _ _ (by rfl) (by walk_at "3") (by decide) (by decide))) (@a0J _ _ 4 _ a0y.nd (by rfl) (by walk_at "2") (by walk_at "4")) (@a0c _ _ _ _ _ (@a0D _ _ _ _ 2 _ _ (@a0m _ _ _ _ _ _ _ _ _ _ D_as_one hr (@a0a _ _ _ _ _ (@hv _ 2 _ _ (by rfl) (by walk_at "3") (by decide) (by decide)) (@a0a _ _ _ _ _ (@h_ix _ _ _ _ _ _ (@hv _ 3 _ _ (by rfl) (by walk_at "3") (by decide) (by decide)) (@a0i _ _ _ _ _ _ _ _ a1E (@hv _ 4 _ _ (by rfl) (by walk_at "3") (by decide) (by decide)) a0g) (by intro _ _; rfl)) (@a0a _ _ _ _ _ (@h_ix _ _ _ _ _ _ (@hv _ 3 _ _ (by rfl) (by walk_at "3") (by decide) (by decide)) (@hv _ 4 _ _ (by rfl) (by walk_at "3") (by decide) (by decide)) (by intro _ _; rfl)) a0f (by rfl)) (by rfl)) (by rfl)) (by rfl) (by decide) (by rfl) (by rfl)) a0y.nd (by rfl) (by walk_at "2") (by rfl) (by walk_at "4")) (@a0c _ _ _ _ _ (@a4W _ _ _ _ _ _ (@a0B _ _ _ _ _ _ _ _ _ a0E Z.b_len PySem.boot_len (@a0a _ _ _ _ _ (@hv _ 2 _ _ (by rfl) (by walk_at "3") (by decide) (by decide)) a0f (by rfl)) (by rfl) (by decide) (by decide) (by rfl) (by rfl)) (@a5G _ _ _ _ _ _ (@hv _ 3 _ _ (by rfl) (by walk_at "3") (by decide) (by decide)) (@a0i _ _ _ _ _ _ _ _ a1E (@hv _ 4 _ _ (by rfl) (by walk_at "3") (by decide) (by decide)) a0g) (by intro _; rfl)) (by rfl) (by rfl) (by rfl)) (@a0c _ _ _ _ _ (@a4W _ _ _ _ _ _ (@a0B _ _ _ _ _ _ _ _ _ a0E Z.b_len PySem.boot_len (@a0a _ _ _ _ _ (@hv _ 2 _ _ (by rfl) (by walk_at "3") (by decide) (by decide)) a0f (by rfl)) (by rfl) (by decide) (by decide) (by rfl) (by rfl)) (@a5G _ _ _ _ _ _ (@hv _ 3 _ _ (by rfl) (by walk_at "3") (by decide) (by decide)) (@hv _ 4 _ _ (by rfl) (by walk_at "3") (by decide) (by decide)) (by intro _; rfl)) (by rfl) (by rfl) (by rfl)) (@a0h _ _ _ (@a2U _ _ _ _ (@a2v _ _ _ _ _ _ _ _ (@hv _ 2 _ _ (by rfl) (by walk_at "3") (by decide) (by decide)) (@a0a _ _ _ _ _ (@a0B _ _ _ _ _ _ _ _ _ a0E Z.b_len PySem.boot_len (@a0a _ _ _ _ _ (@hv _ 2 _ _ (by rfl) (by walk_at "3") (by decide) (by decide)) a0f (by rfl)) (by rfl) (by decide) (by decide) (by rfl) (by rfl)) a0f (by rfl)) (by rfl) (by rfl) (by rfl) (by rfl) (by rfl)) (by rfl)))))) (by intro _; rfl)) (@a0c _ _ _ _ _ (@a2H _ _ _ _ _ _ _ _ PassesOwn.never rfl (@a1U _ _ _ _ _ _ Z.b_range (@a0a _ _ _ _ _ (@hv _ 0 _ _ (by rfl) (by walk_at "3") (by decide) (by decide)) a0f (by rfl)) (by rfl) (by rfl)) (@a0J _ _ 5 _ a0y.nd (by rfl) (by walk_at "2") (by walk_at "4")) (@a0h _ _ _ (@a0D _ _ _ _ 2 _ _ (@a0m _ _ _ _ _ _ _ _ _ _ D_as_one hr (@a0a _ _ _ _ _ (@hv _ 2 _ _ (by rfl) (by walk_at "3") (by decide) (by decide)) (@a0a _ _ _ _ _ (@hv _ 5 _ _ (by rfl) (by walk_at "3") (by decide) (by decide)) (@a0a _ _ _ _ _ (@h_ix _ _ _ _ _ _ (@hv _ 3 _ _ (by rfl) (by walk_at "3") (by decide) (by decide)) (@hv _ 5 _ _ (by rfl) (by walk_at "3") (by decide) (by decide)) (by intro _ _; rfl)) a0f (by rfl)) (by rfl)) (by rfl)) (by rfl) (by decide) (by rfl) (by rfl)) a0y.nd (by rfl) (by walk_at "2") (by rfl) (by walk_at "4"))) (by intro _; rfl)) (@a0h _ _ _ (@a1a _ _ _ _ (@a7F _ _ _ _ _ _ _ rfl (@hv _ 2 _ _ (by rfl) (by walk_at "3") (by decide) (by decide)) Z.b_len Z.b_set (by rfl) (by rfl) (by rfl) (by rfl) (by rfl) (by rfl)))))))), fun ts M Q h => ?_⟩
 unfold a1f at h
 split at h
 ·rename_i n h0
  obtain ⟨m, hs, rfl, rfl, hm, h20, hi, h⟩ := h
  refine a0e fun K1 hK1 => ?_
  walk_at "rd"
  rw [show ((m : Nat) : Int).toNat = m by lia, a4y]
  have hm6 := hm.2
  refine ⟨by lia, fun p hp => ?_⟩
  have hMp : (updM M p (MO.lst (natT (List.range m)))) p = some (.lst (natT (List.range m))) := a0d
  have hS := Sub.new hp (o := MO.lst (natT (List.range m)))
  generalize updM M p (MO.lst (natT (List.range m))) = M1 at hMp hS ⊢
  rw [hK1]; clear hK1
  refine a0e fun K2 hK2 => ?_
  walk_at "rd"
  rw [show ((m : Nat) : Int).toNat = m by lia, a4y]
  refine ⟨by lia, fun q hq => ?_⟩
  have hpq : p ≠ q := fun z => by rw [z, hq] at hMp; cases hMp
  have hX := Sub.new hq (o := MO.lst (natT (List.range m)))
  have hMq : (updM M1 q (MO.lst (natT (List.range m)))) q = some (.lst (natT (List.range m))) := a0d
  have hMp2 := hX _ _ hMp
  have hS2 := hS.trans hX
  have hq0 := a5g hS hq
  generalize updM M1 q (MO.lst (natT (List.range m))) = M2 at hMp2 hMq hS2 ⊢
  clear hX hMp hS hq
  rw [hK2]; clear hK2
  refine a0e fun K3 hK3 => ?_
  refine a0K fun B hB => ?_
  unfold a2g
  walk_at "rd"
  have hlen : (natT hs).length = hs.length := a1F hs
  refine ⟨fun i ρ M' => (∃ (a : Addr) (mk sd : List Nat) (x4 x5 : Option T), ρ = [some (T.int (m : Nat)), some (T.tup (natT hs)), some (T.adr a), some (T.adr q), x4, x5] ∧ a ≠ q ∧ M a = none ∧ M' a = some (.lst (natT mk)) ∧ M' q = some (.lst (natT sd)) ∧ (mk, sd) = hkS m (hs.take i)) ∧ Sub M M', ⟨⟨p, _, _, _, _, rfl, hpq, hp, hMp2, hMq, rfl⟩, hS2⟩, fun _ _ _ _ => trivial, ?_, ?_⟩
  ·rintro i x ρ M' hx ⟨⟨a, mk, sd, x4, x5, rfl, haq, ha0, hMa, hMq, hk⟩, hS⟩
   obtain ⟨k, hk1, rfl⟩ := a6D hx
   obtain ⟨k1, km⟩ := hi k (List.mem_of_getElem? hk1)
   obtain ⟨MI0, hl0⟩ := a4O hm (hs.take i) (fun y hy => hi y (List.mem_of_mem_take hy)) (MI.start hm) (by rw [List.length_range, List.length_take]; lia)
   have hkk : ((hs.take i).foldl (fun s i => stH i s) (List.range m, List.range m)) = (mk, sd) := hk.symm
   rw [hkk] at MI0 hl0
   rw [List.length_range, List.length_take] at hl0
   have hmk : mk.length ≤ 30 := by dsimp only at hl0; lia
   have sl := MI0.sl
   have s1 := MI0.sb (k - 1) (by lia)
   have s2 := MI0.sb k km
   dsimp only at sl s1 s2
   have hk2 : hkS m (hs.take (i + 1)) = stH k (mk, sd) := by
    rw [List.take_add_one, hk1]
    unfold hkS
    rw [List.foldl_append, hkk]; rfl
   rw [hB]; clear hB
   refine a0e fun K4 hK4 => ?_
   walk_at "rd"
   rw [hMq]
   dsimp only
   rw [show ((k : Nat) : Int) - 1 = ((k - 1 : Nat) : Int) by lia, a3m (by lia : k - 1 < sd.length), a3m (by lia : k < sd.length)]
   dsimp only
   refine ⟨mk, _, _, hMa, rfl, rfl, s1, s2, by lia, fun r M3 hr hS3 hr3 => ?_⟩
   show K4 _ _
   have har : r ≠ q := fun z => by rw [z, hMq] at hr; cases hr
   have hMq3 := hS3 _ _ hMq
   have hS4 := hS.trans hS3
   have hr0 := a5g hS hr
   have hl3 : (asO mk (sd.getD (k - 1) 0) (sd.getD k 0)).length = mk.length := a1P ..
   have est : stH k (mk, sd) = (asO mk (sd.getD (k - 1) 0) (sd.getD k 0) ++ [mk.length], (sd.set (k - 1) mk.length).set k mk.length) := rfl
   generalize asO mk (sd.getD (k - 1) 0) (sd.getD k 0) = mk3 at hr3 hl3 est
   clear hr hS3 hS hMa
   rw [hK4]; clear hK4
   refine a0e fun K5 hK5 => ?_
   walk_at "rd"
   rw [hr3]
   dsimp only
   rw [hMq3]
   dsimp only
   rw [show ((k : Nat) : Int) - 1 = ((k - 1 : Nat) : Int) by lia, a8G (by lia) (by rw [a1F]; lia)]
   dsimp only
   rw [a1F, show ((k - 1 : Nat) : Int).toNat = k - 1 by lia, a6C, hl3]
   have hr4 : (updM M3 q (MO.lst (natT (sd.set (k - 1) mk.length)))) r = some (.lst (natT mk3)) := by rw [a0o har]; exact hr3
   have hq4 : (updM M3 q (MO.lst (natT (sd.set (k - 1) mk.length)))) q = some (.lst (natT (sd.set (k - 1) mk.length))) := a0d
   have hS5 := hS4.updF hq0 (o := MO.lst (natT (sd.set (k - 1) mk.length)))
   generalize updM M3 q (MO.lst (natT (sd.set (k - 1) mk.length))) = M4 at hr4 hq4 hS5 ⊢
   clear hr3 hMq3 hS4
   rw [hK5]; clear hK5
   refine a0e fun K6 hK6 => ?_
   walk_at "rd"
   rw [hr4]
   dsimp only
   rw [hq4]
   dsimp only
   rw [a8G (by lia) (by rw [a1F, List.length_set]; lia)]
   dsimp only
   rw [a1F, show ((k : Nat) : Int).toNat = k by lia, a6C, hl3]
   have hr5 : (updM M4 q (MO.lst (natT ((sd.set (k - 1) mk.length).set k mk.length)))) r = some (.lst (natT mk3)) := by rw [a0o har]; exact hr4
   have hq5 : (updM M4 q (MO.lst (natT ((sd.set (k - 1) mk.length).set k mk.length)))) q = some (.lst (natT ((sd.set (k - 1) mk.length).set k mk.length))) := a0d
   have hS6 := hS5.updF hq0 (o := MO.lst (natT ((sd.set (k - 1) mk.length).set k mk.length)))
   generalize updM M4 q (MO.lst (natT ((sd.set (k - 1) mk.length).set k mk.length))) = M5 at hr5 hq5 hS6 ⊢
   clear hr4 hq4 hS5
   rw [hK6]; clear hK6
   walk_at "rd"
   rw [hr5]
   dsimp only
   rw [a1F, hl3, a7p]
   refine ⟨trivial, a0C (by lia), ⟨r, mk3 ++ [mk.length], (sd.set (k - 1) mk.length).set k mk.length, _, _, rfl, har, hr0, a0d, by rw [a0o har.symm]; exact hq5, ?_⟩, hS6.updF hr0⟩
   rw [hk2, est]
  ·rintro ρ M' ⟨⟨a, mk, sd, x4, x5, rfl, haq, ha0, hMa, hMq, hk⟩, hS⟩
   rw [hlen, List.take_length] at hk
   obtain ⟨MI0, hl0⟩ := a4O hm hs hi (MI.start hm) (by rw [List.length_range]; lia)
   have hkk : (hs.foldl (fun s i => stH i s) (List.range m, List.range m)) = (mk, sd) := hk.symm
   rw [hkk] at MI0 hl0
   rw [List.length_range] at hl0
   have hmk : mk.length ≤ 30 := by dsimp only at hl0; lia
   have sl := MI0.sl
   have ml := MI0.ml
   have sb := MI0.sb
   dsimp only at sl ml sb
   rw [hK3]; clear hK3
   refine a0e fun K4 hK4 => ?_
   refine a0K fun B hB => ?_
   unfold a2g
   walk_at "rd"
   refine ⟨by lia, by lia, fun i ρ M' => (∃ (a : Addr) (x4 x5 : Option T), ρ = [some (T.int (m : Nat)), some (T.tup (natT hs)), some (T.adr a), some (T.adr q), x4, x5] ∧ M' a = some (.lst (natT ((List.range i).foldl (fun mk p => asO mk p (sd.getD p 0)) mk))) ∧ M' q = some (.lst (natT sd))) ∧ Sub M M', ⟨⟨a, _, _, rfl, hMa, hMq⟩, hS⟩, fun _ _ _ _ => trivial, ?_, ?_⟩
   ·rintro i x ρ M' hx ⟨⟨a, x4, x5, rfl, hMa, hMq⟩, hS⟩
    obtain ⟨hi2, rfl⟩ := a0P hx
    have hfl : ∀ (l : List Nat) (u : List Nat), (l.foldl (fun mk p => asO mk p (sd.getD p 0)) u).length = u.length := fun l => by
     induction l with
     | nil => intro u; rfl
     | cons y l ih => intro u; rw [List.foldl_cons, ih, a1P]
    have hfi := hfl (List.range i) mk
    have e2 : (List.range (i + 1)).foldl (fun mk p => asO mk p (sd.getD p 0)) mk = asO ((List.range i).foldl (fun mk p => asO mk p (sd.getD p 0)) mk) i (sd.getD i 0) := by rw [List.range_succ, List.foldl_append]; rfl
    generalize (List.range i).foldl (fun mk p => asO mk p (sd.getD p 0)) mk = u at hMa hfi e2
    rw [hB]; clear hB
    walk_at "rd"
    rw [hMq]
    dsimp only
    rw [a3m (by lia : i < sd.length)]
    dsimp only
    refine ⟨u, _, _, hMa, rfl, rfl, by lia, by rw [hfi]; exact sb i (by lia), by lia, fun r M3 hr hS3 hr3 => ?_⟩
    exact ⟨⟨r, _, _, rfl, by rw [e2]; exact hr3, hS3 _ _ hMq⟩, hS.trans hS3⟩
   ·rintro ρ M' ⟨⟨a, x4, x5, rfl, hMa, hMq⟩, hS⟩
    rw [hK4]; clear hK4
    walk_at "rd"
    rw [hMa]
    dsimp only
    rw [a0t, show ((m : Nat) : Int).toNat = m by lia]
    have e3 : (List.range m).foldl (fun mk p => asO mk p (sd.getD p 0)) mk = clS m (hkS m hs) := by rw [← hk]; rfl
    rw [e3]
    have h64 : ∀ x ∈ clS m (hkS m hs), x < 64 := by
     have key : ∀ (l : List Nat) (u : List Nat), (∀ p ∈ l, p < u.length) → (∀ x ∈ u, x < 64) → ∀ x ∈ l.foldl (fun mk p => asO mk p (sd.getD p 0)) u, x < 64 := by
      intro l
      induction l with
      | nil => intro u _ hu; exact hu
      | cons y l ih =>
        intro u hl hu
        rw [List.foldl_cons]
        exact ih _ (fun p hp => by rw [a1P]; exact hl p (.tail _ hp)) fun x hx => hu x (a6R (hl y (.head _)) x hx)
     rw [← hk]
     exact key (List.range m) mk (fun p hp => by have := List.mem_range.mp hp; lia) fun x hx => by have := MI0.mb x hx; lia
    have hln : (clS m (hkS m hs)).length = mk.length := by
     rw [← hk]
     have hfl : ∀ (l : List Nat) (u : List Nat), (l.foldl (fun mk p => asO mk p (sd.getD p 0)) u).length = u.length := fun l => by
      induction l with
      | nil => intro u; rfl
      | cons y l ih => intro u; rw [List.foldl_cons, ih, a1P]
     exact hfl _ _
    refine ⟨nI (clS m (hkS m hs)), rfl, by unfold nI; rw [List.length_map]; lia, ?_⟩
    rw [b8g h64]
    exact a0j (h M' hS)
 ·exact h.elim
noncomputable def a2K : Sp3 := fun ts M Q => match ts with
 | [.tup [.int n, .tup w]] => ∃ ws : List Int, w = ws.map .int ∧ PlOK n ws ∧ ws.length ≤ 10 ∧ ∀ M', Sub M M' → Q (poT (stS n.toNat ws).1) M'
 | _ => False
theorem a7k {P : Program} {w : World} {K : PySem.W.Frag} {mg : Str → Option Value} {base : Heap} {f : Addr} {fd : FuncData} {n : Nat}  (F : Fun K "by_states" "by_states" a1L f fd) (hm : mg "by_states" = some (.ref f)) (hb : a0Y K fd ["plait"] []) (Z : Zs K mg) (D_looked : Df P w K mg base n "looked" ["plait"] a3v) (D_loop_worths : Df P w K mg base n "loop_worths" ["most"] a1n) (D_states_of : Df P w K mg base n "states_of" ["word"] a2J) (D_loops_of_state : Df P w K mg base n "loops_of_state" ["strands", "hooked"] a1f) (D_added : Df P w K mg base n "added" ["one", "other"] a3h) (D_multiplied : Df P w K mg base n "multiplied" ["one", "other"] a0N) : Df P w K mg base (n + 1) "by_states" ["plait"] a2K := by
 obtain ⟨tk_MOST_LETTERS_BY_STATES, c_MOST_LETTERS_BY_STATES⟩ := Z.c_MOST_LETTERS_BY_STATES
 obtain ⟨tk_NOUGHT, c_NOUGHT⟩ := Z.c_NOUGHT
 refine F.dfn hm hb a0S (by intro ts M Q h; unfold a2K at h; first | (split at h <;> first | rfl | exact h.elim) | (obtain ⟨_, _, _, _, _, rfl, _⟩ := h; rfl) | (obtain ⟨_, _, _, _, rfl, _⟩ := h; rfl) | (obtain ⟨_, _, _, rfl, _⟩ := h; rfl) | (obtain ⟨_, _, rfl, _⟩ := h; rfl) | (obtain ⟨_, rfl, _⟩ := h; rfl)) ⟨_, fun cdv A outer s H E hr => (@a0c _ _ _ _ _ (@a0D _ _ _ _ 1 _ _ (@a0m _ _ _ _ _ _ _ _ _ _ D_looked hr (@a0a _ _ _ _ _ (@hv _ 0 _ _ (by rfl) (by walk_at "3") (by decide) (by decide)) a0f (by rfl)) (by rfl) (by decide) (by rfl) (by rfl)) a0S.nd (by rfl) (by walk_at "2") (by rfl) (by walk_at "4")) (@a0c _ _ _ _ _ (@s_if _ _ _ _ _ _ _ _ (@a1X _ _ _ _ _ _ _ _ a5O (@hv _ 1 _ _ (by rfl) (by walk_at "3") (by decide) (by decide)) (@a8M _ _ _ _ _ c_MOST_LETTERS_BY_STATES (by rfl) (by decide)) (@a1C _ _ (by decide) (by decide))) (@a0h _ _ _ b1a) a2y) (@a0c _ _ _ _ _ (@a0D _ _ _ _ 2 _ _ (@a0m _ _ _ _ _ _ _ _ _ _ D_loop_worths hr (@a0a _ _ _ _ _ (@a0i _ _ _ _ _ _ _ _ a0r (@h_ix _ _ _ _ _ _ (@hv _ 0 _ _ (by rfl) (by walk_at "3") (by decide) (by decide)) a0g (by intro _ _; rfl)) (@hv _ 1 _ _ (by rfl) (by walk_at "3") (by decide) (by decide))) a0f (by rfl)) (by rfl) (by decide) (by rfl) (by rfl)) a0S.nd (by rfl) (by walk_at "2") (by rfl) (by walk_at "4")) (@a0c _ _ _ _ _ (@a0D _ _ _ _ 3 _ _ (@a3B _ _ _ _ _ c_NOUGHT (by rfl) (by decide)) a0S.nd (by rfl) (by walk_at "2") (by rfl) (by walk_at "4")) (@a0c _ _ _ _ _ (@a2H _ _ _ _ _ _ _ _ PassesOwn.never rfl (@a3P _ _ _ _ (@a0m _ _ _ _ _ _ _ _ _ _ D_states_of hr (@a0a _ _ _ _ _ (@h_ix _ _ _ _ _ _ (@hv _ 0 _ _ (by rfl) (by walk_at "3") (by decide) (by decide)) a0g (by intro _ _; rfl)) a0f (by rfl)) (by rfl) (by decide) (by rfl) (by rfl))) (@a7H _ _ _ _ _ 2 rfl (@a1m _ _ _ _ _ (@a0J _ _ 4 _ a0S.nd (by rfl) (by walk_at "2") (by walk_at "4")) (@a1m _ _ _ _ _ (@a0J _ _ 5 _ a0S.nd (by rfl) (by walk_at "2") (by walk_at "4")) a4H (by rfl)) (by rfl)) (by rfl) (by rfl)) (@a0c _ _ _ _ _ (@a0D _ _ _ _ 6 _ _ (@h_ix _ _ _ _ _ _ (@hv _ 2 _ _ (by rfl) (by walk_at "3") (by decide) (by decide)) (@a0m _ _ _ _ _ _ _ _ _ _ D_loops_of_state hr (@a0a _ _ _ _ _ (@h_ix _ _ _ _ _ _ (@hv _ 0 _ _ (by rfl) (by walk_at "3") (by decide) (by decide)) a0g (by intro _ _; rfl)) (@a0a _ _ _ _ _ (@hv _ 5 _ _ (by rfl) (by walk_at "3") (by decide) (by decide)) a0f (by rfl)) (by rfl)) (by rfl) (by decide) (by rfl) (by rfl)) (by intro _ _; rfl)) a0S.nd (by rfl) (by walk_at "2") (by rfl) (by walk_at "4")) (@a0h _ _ _ (@a0D _ _ _ _ 3 _ _ (@a0m _ _ _ _ _ _ _ _ _ _ D_added hr (@a0a _ _ _ _ _ (@hv _ 3 _ _ (by rfl) (by walk_at "3") (by decide) (by decide)) (@a0a _ _ _ _ _ (@a0m _ _ _ _ _ _ _ _ _ _ D_multiplied hr (@a1Q _ _ _ _ _ _ _ (@a3a _ _ _ _ _ (@a1Q _ _ _ _ _ _ _ (@a3a _ _ _ _ _ (@a0a _ _ _ _ _ (@hv _ 4 _ _ (by rfl) (by walk_at "3") (by decide) (by decide)) (@a0a _ _ _ _ _ a0g a0f (by rfl)) (by rfl))) a0f)) (@a0a _ _ _ _ _ (@hv _ 6 _ _ (by rfl) (by walk_at "3") (by decide) (by decide)) a0f (by rfl))) (by rfl) (by decide) (by rfl) (by rfl)) a0f (by rfl)) (by rfl)) (by rfl) (by decide) (by rfl) (by rfl)) a0S.nd (by rfl) (by walk_at "2") (by rfl) (by walk_at "4")))) (by intro _; rfl)) (@a0h _ _ _ (@a1a _ _ _ _ (@hv _ 3 _ _ (by rfl) (by walk_at "3") (by decide) (by decide))))))))), fun ts M Q h => ?_⟩
 unfold a2K at h
 split at h
 ·rename_i n w
  obtain ⟨ws, rfl, ok, h10, h⟩ := h
  obtain ⟨n1, n6, hl, hw⟩ := id ok
  refine a0e fun K1 hK1 => ?_
  walk_at "rd"
  refine ⟨ws, rfl, ok, ?_⟩
  dsimp only
  rw [hK1]; clear hK1
  refine a0e fun K2 hK2 => ?_
  walk_at "rd"
  rw [if_neg (by try rw [List.length_map]
                 lia)]
  rw [hK2]; clear hK2
  refine a0e fun K3 hK3 => ?_
  walk_at "rd"
  refine ⟨n.toNat + ws.length, by lia, by lia, by lia, fun r M1 hr hS hr1 => ?_⟩
  show K3 _ _
  rw [hK3]; clear hK3
  refine a0e fun K4 hK4 => ?_
  walk_at "rd"
  rw [hK4]; clear hK4
  refine a0e fun K5 hK5 => ?_
  refine a0K fun B hB => ?_
  unfold a2g
  walk_at "rd"
  refine ⟨ws, rfl, h10, fun l hl => by have := hw l hl; unfold a4v at this; lia, fun q M2 hq hS2 hq2 => ?_⟩
  dsimp only
  rw [hq2]
  dsimp only
  have hr2 := hS2 _ _ hr1
  have hS3 := hS.trans hS2
  obtain ⟨hm, hst⟩ := a4U ok
  have hsl : (stsL ws).length = 2 ^ ws.length := a8i ws
  refine ⟨fun i ρ M' => (∃ (x4 x5 x6 : Option T), ρ = [some (T.tup [T.int n, T.tup (List.map T.int ws)]), some (T.int (ws.length : Nat)), some (T.adr r), some (poT (sumS n.toNat ((stsL ws).take i) [])), x4, x5, x6]) ∧ M' r = some (.lst ((lwL (n.toNat + ws.length)).map poT)) ∧ M' q = some (.lst ((stsL ws).map st1T)) ∧ Sub M M', ⟨⟨_, _, _, rfl⟩, hr2, hq2, hS3⟩, ?_, ?_, ?_⟩
  ·rintro i ρ M' ⟨_, _, h1, _⟩
   exact h1
  ·rintro i x ρ M' hx ⟨⟨x4, x5, x6, rfl⟩, hMr, hMq, hS⟩
   obtain ⟨s, hs, rfl⟩ := a8l hx
   obtain ⟨a1, a2, a3, a4⟩ := hst s (List.mem_of_getElem? hs)
   obtain ⟨b1, b2⟩ := a8B hm a2 (by lia)
   dsimp only
   refine ⟨rfl, rfl, ?_⟩
   rw [hB]; clear hB
   refine a0e fun K6 hK6 => ?_
   walk_at "rd"
   refine ⟨n.toNat, s.2, by lia, rfl, hm, by lia, a2, fun M3 hS4 => ?_⟩
   dsimp only
   have hMr3 := hS4 _ _ hMr
   have hMq3 := hS4 _ _ hMq
   have hS5 := hS.trans hS4
   rw [hMr3]
   dsimp only
   have e0 : atI ((lwL (n.toNat + ws.length)).map poT) ((lpH n.toNat s.2 : Nat) : Int) = some (poT (dP (lpH n.toNat s.2 - 1))) := by
    refine a2e ?_
    rw [List.getElem?_map, show lpH n.toNat s.2 = lpH n.toNat s.2 - 1 + 1 by lia, b1G (by lia)]; rfl
   rw [e0]
   dsimp only
   rw [hK6]; clear hK6
   walk_at "rd"
   have g1 : GdE (ws.length + 2 * (n.toNat + ws.length) - 2 * (lpH n.toNat s.2 - 1)) [(s.1, 1)] := GdE.monoM ⟨by lia, by lia⟩
   have g2 := a4c (lpH n.toNat s.2 - 1)
   have g3 : GdE (ws.length + 2 * (n.toNat + ws.length)) (sumS n.toNat ((stsL ws).take i) []) := a4T _ _ (GdE.nil _) fun t ht => by
    obtain ⟨c1, c2, c3, c4⟩ := hst t (List.mem_of_mem_take ht)
    obtain ⟨d1, d2⟩ := a8B hm c2 (by lia)
    exact ⟨ws.length + 2 * (n.toNat + ws.length) - 2 * (lpH n.toNat t.2 - 1), by lia, by lia, by lia⟩
   refine ⟨by decide, by decide, a2Y g1 g2 (by lia) (.inl (Sml.one1 _)) ?_⟩
   have ec : ws.length + 2 * (n.toNat + ws.length) - 2 * (lpH n.toNat s.2 - 1) + 2 * (lpH n.toNat s.2 - 1) = ws.length + 2 * (n.toNat + ws.length) := by lia
   have g4 := g1.mul g2
   rw [ec] at g4
   refine a5w g3 g4 (by lia) ?_
   have et : (stsL ws).take (i + 1) = (stsL ws).take i ++ [s] := by rw [List.take_add_one, hs]; rfl
   rw [et, a6U]
   exact ⟨⟨_, _, _, rfl⟩, hMr3, hMq3, hS5⟩
  ·rintro ρ M' ⟨⟨x4, x5, x6, rfl⟩, hMr, hMq, hS⟩
   rw [hK5]
   walk_at "rd"
   try rw [List.length_map]
   rw [List.take_length, b0a ok (by lia)]
   exact a0j (h M' hS)
 ·exact h.elim
theorem a4X (a : Int) (m : Nat) : a1b a m = ((List.range m).map fun (k : Nat) => a + k).map T.int := by
 unfold a1b
 rw [List.map_map]; rfl
noncomputable def a2h : Sp3 := fun ts M Q => match ts with
 | [.int n] => ∃ m : Nat, n = m ∧ 1 ≤ m ∧ m ≤ 6 ∧ Q (.dic (nI (plN m)) []) M
 | _ => False
theorem a6t {P : Program} {w : World} {K : PySem.W.Frag} {mg : Str → Option Value} {base : Heap} {f : Addr} {fd : FuncData} {n : Nat}  (F : Fun K "plain_nest" "plain_nest" a1u f fd) (hm : mg "plain_nest" = some (.ref f)) (hb : a0Y K fd ["strands"] []) (Z : Zs K mg)  : Df P w K mg base (n + 1) "plain_nest" ["strands"] a2h := by
 refine F.dfn hm hb a6l (by intro ts M Q h; unfold a2h at h; first | (split at h <;> first | rfl | exact h.elim) | (obtain ⟨_, _, _, _, _, rfl, _⟩ := h; rfl) | (obtain ⟨_, _, _, _, rfl, _⟩ := h; rfl) | (obtain ⟨_, _, _, rfl, _⟩ := h; rfl) | (obtain ⟨_, _, rfl, _⟩ := h; rfl) | (obtain ⟨_, rfl, _⟩ := h; rfl)) ⟨_, fun cdv A outer s H E hr => (@a0h _ _ _ (@a1a _ _ _ _ (@a0i _ _ _ _ _ _ _ _ b3m (@a8K _ _ _ _ _ _ _ _ Z.b_tuple Z.b_range (@a0a _ _ _ _ _ (@hv _ 0 _ _ (by rfl) (by walk_at "3") (by decide) (by decide)) (@a0a _ _ _ _ _ (@a0i _ _ _ _ _ _ _ _ a1d a0g (@hv _ 0 _ _ (by rfl) (by walk_at "3") (by decide) (by decide))) a0f (by rfl)) (by rfl)) (by rfl) (by rfl) (by rfl) (by rfl) (by rfl) (by rfl)) (@a8L _ _ _ _ _ _ _ Z.b_tuple Z.b_range (@a0a _ _ _ _ _ (@hv _ 0 _ _ (by rfl) (by walk_at "3") (by decide) (by decide)) a0f (by rfl)) (by rfl) (by rfl) (by rfl) (by rfl) (by rfl))))), fun ts M Q h => ?_⟩
 unfold a2h at h
 split at h
 ·rename_i n
  obtain ⟨m, rfl, m1, m6, h⟩ := h
  walk_at "rd"
  rw [show (2 * (m : Int) - (m : Int)).toNat = m by lia, show ((m : Nat) : Int).toNat = m by lia]
  refine ⟨.inl ⟨by lia, by lia⟩, by lia, by lia, _, _, a4X _ m, a4X 0 m, ?_, ?_, ?_, ?_⟩
  ·intro z
   have := congrArg List.length z
   rw [List.length_map, List.length_range, List.length_nil] at this
   lia
  ·intro z
   have := congrArg List.length z
   rw [List.length_map, List.length_range, List.length_nil] at this
   lia
  ·rw [List.length_map, List.length_map, List.length_range]
   exact a5h (by lia)
  ·have e : ((List.range m).map fun (k : Nat) => (m : Int) + k) ++ ((List.range m).map fun (k : Nat) => (0 : Int) + k) = nI (plN m) := by
    unfold nI plN
    rw [List.map_append, List.map_map]
    congr 1
    ·refine List.map_congr_left fun k _ => ?_
     show (m : Int) + k = ((k + m : Nat) : Int)
     lia
    ·refine List.map_congr_left fun k _ => ?_
     lia
   rw [e]
   exact a0j h
 ·exact h.elim
theorem a9u (N : Nst) : (nI N).length = N.length := List.length_map ..
theorem b1A {N : Nst} {k : Nat} (h : k < N.length) : atI ((nI N).map T.int) (k : Int) = some (.int (gN N k : Nat)) := by
 refine a2e ?_
 unfold nI gN
 rw [List.getElem?_map, List.getElem?_map, List.getElem?_eq_getElem h, List.getD_eq_getElem?_getD, List.getElem?_eq_getElem h]; rfl
noncomputable def a2i : Sp3 := fun ts M Q => match ts with
 | [.dic ks _, .int l] => ∃ (m i : Nat) (N : Nst), ks = nI N ∧ l = i ∧ Cm m ∧ N ∈ nsts m ∧ 1 ≤ i ∧ i < m ∧ Q (.bl (mlN N i)) M
 | _ => False
theorem a6v {P : Program} {w : World} {K : PySem.W.Frag} {mg : Str → Option Value} {base : Heap} {f : Addr} {fd : FuncData} {n : Nat}  (F : Fun K "makes_loop" "makes_loop" a1w f fd) (hm : mg "makes_loop" = some (.ref f)) (hb : a0Y K fd ["nest", "number"] []) (Z : Zs K mg)  : Df P w K mg base (n + 1) "makes_loop" ["nest", "number"] a2i := by
 refine F.dfn hm hb a4p (by intro ts M Q h; unfold a2i at h; first | (split at h <;> first | rfl | exact h.elim) | (obtain ⟨_, _, _, _, _, rfl, _⟩ := h; rfl) | (obtain ⟨_, _, _, _, rfl, _⟩ := h; rfl) | (obtain ⟨_, _, _, rfl, _⟩ := h; rfl) | (obtain ⟨_, _, rfl, _⟩ := h; rfl) | (obtain ⟨_, rfl, _⟩ := h; rfl)) ⟨_, fun cdv A outer s H E hr => (@a0c _ _ _ _ _ (@a0D _ _ _ _ 2 _ _ (@a0i _ _ _ _ _ _ _ _ a0r (@a0i _ _ _ _ _ _ _ _ a3Z (@a0B _ _ _ _ _ _ _ _ _ a0E Z.b_len PySem.boot_len (@a0a _ _ _ _ _ (@a3u _ _ _ (@hv _ 0 _ _ (by rfl) (by walk_at "3") (by decide) (by decide))) a0f (by rfl)) (by rfl) (by decide) (by decide) (by rfl) (by rfl)) a0g) (@hv _ 1 _ _ (by rfl) (by walk_at "3") (by decide) (by decide))) a4p.nd (by rfl) (by walk_at "2") (by rfl) (by walk_at "4")) (@a0h _ _ _ (@a1a _ _ _ _ (@b0u _ _ _ _ _ _ _ _ (@a5e _ hr.units) (@h_ix _ _ _ _ _ _ (@a3u _ _ _ (@hv _ 0 _ _ (by rfl) (by walk_at "3") (by decide) (by decide))) (@hv _ 2 _ _ (by rfl) (by walk_at "3") (by decide) (by decide)) (by intro _ _; rfl)) (@a0i _ _ _ _ _ _ _ _ a1E (@hv _ 2 _ _ (by rfl) (by walk_at "3") (by decide) (by decide)) a0g) (@a1C _ _ (by decide) (by decide)))))), fun ts M Q h => ?_⟩
 unfold a2i at h
 split at h
 ·rename_i ks e l
  obtain ⟨m, i, N, rfl, rfl, hm, hN, i1, im, h⟩ := h
  refine a0e fun K1 hK1 => ?_
  walk_at "rd"
  have hl := (a6B hm hN).1
  have hm6 := hm.2
  have em : ((nI N).length : Int) / 2 + (i : Int) = ((m + i : Nat) : Int) := by rw [a9u, hl]; lia
  refine ⟨by unfold b0B; decide, ?_⟩
  rw [em, hK1]; clear hK1
  walk_at "rd"
  rw [b1A (by lia : m + i < N.length)]
  dsimp only
  refine ⟨by first | rw [a2B] | (rw [a2P]; decide), by first | rw [a2B] | (rw [a2P]; decide), ?_⟩
  rw [a3D]
  have e : decide (((gN N (m + i) : Nat) : Int) = ((m + i : Nat) : Int) - 1) = mlN N i := by
   unfold mlN
   rw [show N.length / 2 = m by lia]
   by_cases c : gN N (m + i) = m + i - 1
   ·rw [decide_eq_true (by lia), beq_iff_eq.mpr c]
   ·rw [decide_eq_false (by lia)]
    exact (beq_eq_false_iff_ne.mpr c).symm
  rw [e]
  exact a0j h
 ·exact h.elim
noncomputable def a2I : Sp3 := fun ts M Q => match ts with
 | [.dic ks _, .int l] => ∃ (m i : Nat) (N : Nst), ks = nI N ∧ l = i ∧ Cm m ∧ N ∈ nsts m ∧ 1 ≤ i ∧ i < m ∧ ∀ M', Sub M M' → Q (.dic (nI (hkN N i)) []) M'
 | _ => False
theorem a7h {P : Program} {w : World} {K : PySem.W.Frag} {mg : Str → Option Value} {base : Heap} {f : Addr} {fd : FuncData} {n : Nat}  (F : Fun K "with_hook" "with_hook" a1J f fd) (hm : mg "with_hook" = some (.ref f)) (hb : a0Y K fd ["nest", "number"] []) (Z : Zs K mg)  : Df P w K mg base (n + 1) "with_hook" ["nest", "number"] a2I := by
 refine F.dfn hm hb a3w (by intro ts M Q h; unfold a2I at h; first | (split at h <;> first | rfl | exact h.elim) | (obtain ⟨_, _, _, _, _, rfl, _⟩ := h; rfl) | (obtain ⟨_, _, _, _, rfl, _⟩ := h; rfl) | (obtain ⟨_, _, _, rfl, _⟩ := h; rfl) | (obtain ⟨_, _, rfl, _⟩ := h; rfl) | (obtain ⟨_, rfl, _⟩ := h; rfl)) ⟨_, fun cdv A outer s H E hr => (@a0c _ _ _ _ _ (@a0D _ _ _ _ 2 _ _ (@a0i _ _ _ _ _ _ _ _ a0r (@a0i _ _ _ _ _ _ _ _ a3Z (@a0B _ _ _ _ _ _ _ _ _ a0E Z.b_len PySem.boot_len (@a0a _ _ _ _ _ (@a3u _ _ _ (@hv _ 0 _ _ (by rfl) (by walk_at "3") (by decide) (by decide))) a0f (by rfl)) (by rfl) (by decide) (by decide) (by rfl) (by rfl)) a0g) (@hv _ 1 _ _ (by rfl) (by walk_at "3") (by decide) (by decide))) a3w.nd (by rfl) (by walk_at "2") (by rfl) (by walk_at "4")) (@a0c _ _ _ _ _ (@a0D _ _ _ _ 3 _ _ (@a3q _ _ _ _ _ _ _ _ _ b0A Z.b_list PyProof.Rows.boot_list (@a0a _ _ _ _ _ (@a3u _ _ _ (@hv _ 0 _ _ (by rfl) (by walk_at "3") (by decide) (by decide))) a0f (by rfl)) (by rfl) (by decide) (by decide) (by rfl) (by rfl)) a3w.nd (by rfl) (by walk_at "2") (by rfl) (by walk_at "4")) (@a0c _ _ _ _ _ (@a4W _ _ _ _ _ _ (@h_ix _ _ _ _ _ _ (@a3u _ _ _ (@hv _ 0 _ _ (by rfl) (by walk_at "3") (by decide) (by decide))) (@hv _ 2 _ _ (by rfl) (by walk_at "3") (by decide) (by decide)) (by intro _ _; rfl)) (@a5G _ _ _ _ _ _ (@hv _ 3 _ _ (by rfl) (by walk_at "3") (by decide) (by decide)) (@h_ix _ _ _ _ _ _ (@a3u _ _ _ (@hv _ 0 _ _ (by rfl) (by walk_at "3") (by decide) (by decide))) (@a0i _ _ _ _ _ _ _ _ a1E (@hv _ 2 _ _ (by rfl) (by walk_at "3") (by decide) (by decide)) a0g) (by intro _ _; rfl)) (by intro _; rfl)) (by rfl) (by rfl) (by rfl)) (@a0c _ _ _ _ _ (@a4W _ _ _ _ _ _ (@h_ix _ _ _ _ _ _ (@a3u _ _ _ (@hv _ 0 _ _ (by rfl) (by walk_at "3") (by decide) (by decide))) (@a0i _ _ _ _ _ _ _ _ a1E (@hv _ 2 _ _ (by rfl) (by walk_at "3") (by decide) (by decide)) a0g) (by intro _ _; rfl)) (@a5G _ _ _ _ _ _ (@hv _ 3 _ _ (by rfl) (by walk_at "3") (by decide) (by decide)) (@h_ix _ _ _ _ _ _ (@a3u _ _ _ (@hv _ 0 _ _ (by rfl) (by walk_at "3") (by decide) (by decide))) (@hv _ 2 _ _ (by rfl) (by walk_at "3") (by decide) (by decide)) (by intro _ _; rfl)) (by intro _; rfl)) (by rfl) (by rfl) (by rfl)) (@a0c _ _ _ _ _ (@a4W _ _ _ _ _ _ (@hv _ 2 _ _ (by rfl) (by walk_at "3") (by decide) (by decide)) (@a5G _ _ _ _ _ _ (@hv _ 3 _ _ (by rfl) (by walk_at "3") (by decide) (by decide)) (@a0i _ _ _ _ _ _ _ _ a1E (@hv _ 2 _ _ (by rfl) (by walk_at "3") (by decide) (by decide)) a0g) (by intro _; rfl)) (by rfl) (by rfl) (by rfl)) (@a0c _ _ _ _ _ (@a4W _ _ _ _ _ _ (@a0i _ _ _ _ _ _ _ _ a1E (@hv _ 2 _ _ (by rfl) (by walk_at "3") (by decide) (by decide)) a0g) (@a5G _ _ _ _ _ _ (@hv _ 3 _ _ (by rfl) (by walk_at "3") (by decide) (by decide)) (@hv _ 2 _ _ (by rfl) (by walk_at "3") (by decide) (by decide)) (by intro _; rfl)) (by rfl) (by rfl) (by rfl)) (@a0h _ _ _ (@a1a _ _ _ _ (@a3q _ _ _ _ _ _ _ _ _ b0z Z.b_tuple PyProof.Rows.boot_tuple (@a0a _ _ _ _ _ (@hv _ 3 _ _ (by rfl) (by walk_at "3") (by decide) (by decide)) a0f (by rfl)) (by rfl) (by decide) (by decide) (by rfl) (by rfl)))))))))), fun ts M Q h => ?_⟩
 unfold a2I at h
 split at h
 ·rename_i ks e l
  obtain ⟨m, i, N, rfl, rfl, hm, hN, i1, im, h⟩ := h
  refine a0e fun K1 hK1 => ?_
  walk_at "rd"
  have hl := (a6B hm hN).1
  have hlt := (a6B hm hN).2.1
  have hm6 := hm.2
  have em : ((nI N).length : Int) / 2 + (i : Int) = ((m + i : Nat) : Int) := by rw [a9u, hl]; lia
  refine ⟨by unfold b0B; decide, ?_⟩
  rw [em, hK1]; clear hK1
  refine a0e fun K2 hK2 => ?_
  walk_at "rd"
  intro p hp
  have hnat : (nI N).map T.int = natT N := rfl
  have la : gN N (m + i - 1) < 2 * m := (a4F hm hN (by lia)).1
  have lc : gN N (m + i) < 2 * m := (a4F hm hN (by lia)).1
  have ga : atI ((nI N).map T.int) (((m + i : Nat) : Int) - 1) = some (.int (gN N (m + i - 1) : Nat)) := by
   rw [show ((m + i : Nat) : Int) - 1 = ((m + i - 1 : Nat) : Int) by lia]
   exact b1A (by lia)
  have gc : atI ((nI N).map T.int) ((m + i : Nat) : Int) = some (.int (gN N (m + i) : Nat)) := b1A (by lia)
  have hMp : (updM M p (MO.lst ((nI N).map T.int))) p = some (.lst (natT N)) := a0d
  have hS := Sub.new hp (o := MO.lst ((nI N).map T.int))
  generalize updM M p (MO.lst ((nI N).map T.int)) = M1 at hMp hS ⊢
  rw [hK2]; clear hK2
  refine a0e fun K3 hK3 => ?_
  walk_at "rd"
  rw [gc]
  dsimp only
  rw [ga]
  dsimp only
  have stp : ∀ (M2 : MH) (L : Nst) (j x : Nat) (K : En → MH → Prop), Sub M M2 → M2 p = some (.lst (natT L)) → j < L.length → (∀ M3, Sub M M3 → M3 p = some (.lst (natT (L.set j x))) → K [some (T.dic (nI N) e), some (T.int (i : Nat)), some (T.int ((m + i : Nat) : Int)), some (T.adr p)] M3) →
    (match M2 p with
     | some (MO.lst ts) => (match ixN ts.length ((j : Nat) : Int) with
       | some j => K [some (T.dic (nI N) e), some (T.int (i : Nat)), some (T.int ((m + i : Nat) : Int)), some (T.adr p)] (updM M2 p (MO.lst (ts.set j (T.int (x : Nat)))))
       | none => False)
     | x => False) := fun M2 L j x K hS2 h2 hj k => by
   rw [h2]
   dsimp only
   rw [a8G (by lia) (by rw [a1F]; lia)]
   dsimp only
   rw [show ((j : Nat) : Int).toNat = j by lia, a6C]
   exact k _ (hS2.updF hp) a0d
  refine stp M1 N _ _ K3 hS hMp (by lia) fun M2 hS2 h2 => ?_
  rw [hK3]; clear hK3 hS hMp
  refine a0e fun K4 hK4 => ?_
  walk_at "rd"
  rw [ga]
  dsimp only
  rw [gc]
  dsimp only
  refine stp M2 _ _ _ K4 hS2 h2 (by rw [List.length_set]; lia) fun M3 hS3 h3 => ?_
  rw [hK4]; clear hK4 hS2 h2
  refine a0e fun K5 hK5 => ?_
  walk_at "rd"
  rw [show ((m + i : Nat) : Int) - 1 = ((m + i - 1 : Nat) : Int) by lia]
  refine stp M3 _ _ _ K5 hS3 h3 (by rw [List.length_set, List.length_set]; lia) fun M4 hS4 h4 => ?_
  rw [hK5]; clear hK5 hS3 h3
  refine a0e fun K6 hK6 => ?_
  walk_at "rd"
  rw [show ((m + i : Nat) : Int) - 1 = ((m + i - 1 : Nat) : Int) by lia]
  refine stp M4 _ _ _ K6 hS4 h4 (by rw [List.length_set, List.length_set, List.length_set]; lia) fun M5 hS5 h5 => ?_
  rw [hK6]; clear hK6 hS4 h4
  walk_at "rd"
  rw [h5]
  refine ⟨nI (hkN N i), ?_, a0j (h M5 hS5)⟩
  unfold hkN
  rw [show N.length / 2 = m by lia]; rfl
 ·exact h.elim
noncomputable def a4l : Sp3 := fun ts M Q => match ts with
 | [.adr d, .dic ks _, .tup p] => ∃ (m c : Nat) (D : DN) (N : Nst) (q : Po), M d = some (.dt (dtN D)) ∧ ks = nI N ∧ p = q.map prT ∧ N ∈ nsts m ∧ DOK m c D ∧ GdE c q ∧ c ≤ 62 ∧ Q .non (updM M d (.dt (dtN (addD D N q))))
 | _ => False
theorem b1w {P : Program} {w : World} {K : PySem.W.Frag} {mg : Str → Option Value} {base : Heap} {f : Addr} {fd : FuncData} {n : Nat}  (F : Fun K "put_in" "put_in" a3J f fd) (hm : mg "put_in" = some (.ref f)) (hb : a0Y K fd ["worths", "nest", "worth"] []) (Z : Zs K mg) (D_added : Df P w K mg base n "added" ["one", "other"] a3h) : Df P w K mg base (n + 1) "put_in" ["worths", "nest", "worth"] a4l := by
 obtain ⟨tk_NOUGHT, c_NOUGHT⟩ := Z.c_NOUGHT
 refine F.dfn hm hb b0W (by intro ts M Q h; unfold a4l at h; first | (split at h <;> first | rfl | exact h.elim) | (obtain ⟨_, _, _, _, _, rfl, _⟩ := h; rfl) | (obtain ⟨_, _, _, _, rfl, _⟩ := h; rfl) | (obtain ⟨_, _, _, rfl, _⟩ := h; rfl) | (obtain ⟨_, _, rfl, _⟩ := h; rfl) | (obtain ⟨_, rfl, _⟩ := h; rfl)) ⟨_, fun cdv A outer s H E hr => (@a0h _ _ _ (@b8h _ _ _ _ _ _ _ _ _ hr.units (@a0m _ _ _ _ _ _ _ _ _ _ D_added hr (@a0a _ _ _ _ _ (@b7B _ _ _ _ _ _ _ _ _ hr.units (@hv _ 0 _ _ (by rfl) (by walk_at "3") (by decide) (by decide)) (@hv _ 1 _ _ (by rfl) (by walk_at "3") (by decide) (by decide)) (@a3B _ _ _ _ _ c_NOUGHT (by rfl) (by decide)) (by rfl) (by rfl) (by rfl) (by rfl)) (@a0a _ _ _ _ _ (@hv _ 2 _ _ (by rfl) (by walk_at "3") (by decide) (by decide)) a0f (by rfl)) (by rfl)) (by rfl) (by decide) (by rfl) (by rfl)) (@hv _ 0 _ _ (by rfl) (by walk_at "3") (by decide) (by decide)) (@hv _ 1 _ _ (by rfl) (by walk_at "3") (by decide) (by decide)) (by rfl))), fun ts M Q h => ?_⟩
 unfold a4l at h
 split at h
 ·rename_i d ks e p
  obtain ⟨m, c, D, N, q, hd, rfl, rfl, hN, hD, hq, hc, h⟩ := h
  walk_at "rd"
  rw [hd]
  refine ⟨trivial, ?_⟩
  dsimp only
  rw [a8W]
  refine a5w (a9y hD.2 N) hq hc ?_
  rw [hd]
  dsimp only
  refine ⟨a0C (by rw [b5H]; have := hD.len; lia), ?_⟩
  rw [a9h hD.1]
  exact a0j h
 ·exact h.elim
noncomputable def a1R : Sp3 := fun ts M Q => match ts with
 | [.adr d, .int l] => ∃ (m b : Nat) (D : DN), M d = some (.dt (dtN D)) ∧ Cm m ∧ LetN m l ∧ DOK m b D ∧ b ≤ 50 ∧ ∀ (r : Addr) (M' : MH), M r = none → (∀ a o, a ≠ d → M a = some o → M' a = some o) → M' r = some (.dt (dtN (wlN l D))) → Q (.adr r) M'
 | _ => False
theorem a5y {P : Program} {w : World} {K : PySem.W.Frag} {mg : Str → Option Value} {base : Heap} {f : Addr} {fd : FuncData} {n : Nat}  (F : Fun K "with_letter" "with_letter" a1g f fd) (hm : mg "with_letter" = some (.ref f)) (hb : a0Y K fd ["worths", "letter"] []) (Z : Zs K mg) (D_sign_of : Df P w K mg base n "sign_of" ["letter"] a1I) (D_put_in : Df P w K mg base n "put_in" ["worths", "nest", "worth"] a4l) (D_multiplied : Df P w K mg base n "multiplied" ["one", "other"] a0N) (D_makes_loop : Df P w K mg base n "makes_loop" ["nest", "number"] a2i) (D_with_hook : Df P w K mg base n "with_hook" ["nest", "number"] a2I) : Df P w K mg base (n + 1) "with_letter" ["worths", "letter"] a1R := by
 obtain ⟨tk_LOOP, c_LOOP⟩ := Z.c_LOOP
 refine F.dfn hm hb a0Z (by intro ts M Q h; unfold a1R at h; first | (split at h <;> first | rfl | exact h.elim) | (obtain ⟨_, _, _, _, _, rfl, _⟩ := h; rfl) | (obtain ⟨_, _, _, _, rfl, _⟩ := h; rfl) | (obtain ⟨_, _, _, rfl, _⟩ := h; rfl) | (obtain ⟨_, _, rfl, _⟩ := h; rfl) | (obtain ⟨_, rfl, _⟩ := h; rfl)) ⟨_, fun cdv A outer s H E hr => (@a0c _ _ _ _ _ (@a0D _ _ _ _ 2 _ _ (@a0m _ _ _ _ _ _ _ _ _ _ D_sign_of hr (@a0a _ _ _ _ _ (@hv _ 1 _ _ (by rfl) (by walk_at "3") (by decide) (by decide)) a0f (by rfl)) (by rfl) (by decide) (by rfl) (by rfl)) a0Z.nd (by rfl) (by walk_at "2") (by rfl) (by walk_at "4")) (@a0c _ _ _ _ _ (@a0D _ _ _ _ 3 _ _ b7C a0Z.nd (by rfl) (by walk_at "2") (by rfl) (by walk_at "4")) (@a0c _ _ _ _ _ (@a2H _ _ _ _ _ _ _ _ PassesOwn.never rfl (@b1T _ _ _ _ _ _ _ _ (@hv _ 0 _ _ (by rfl) (by walk_at "3") (by decide) (by decide)) (by rfl) (by rfl)) (@a7H _ _ _ _ _ 2 rfl (@a1m _ _ _ _ _ (@a0J _ _ 4 _ a0Z.nd (by rfl) (by walk_at "2") (by walk_at "4")) (@a1m _ _ _ _ _ (@a0J _ _ 5 _ a0Z.nd (by rfl) (by walk_at "2") (by walk_at "4")) a4H (by rfl)) (by rfl)) (by rfl) (by rfl)) (@a0c _ _ _ _ _ (@a2U _ _ _ _ (@a0m _ _ _ _ _ _ _ _ _ _ D_put_in hr (@a0a _ _ _ _ _ (@hv _ 3 _ _ (by rfl) (by walk_at "3") (by decide) (by decide)) (@a0a _ _ _ _ _ (@hv _ 4 _ _ (by rfl) (by walk_at "3") (by decide) (by decide)) (@a0a _ _ _ _ _ (@a0m _ _ _ _ _ _ _ _ _ _ D_multiplied hr (@a0a _ _ _ _ _ (@hv _ 5 _ _ (by rfl) (by walk_at "3") (by decide) (by decide)) (@a1Q _ _ _ _ _ _ _ (@a3a _ _ _ _ _ (@a1Q _ _ _ _ _ _ _ (@a3a _ _ _ _ _ (@a0a _ _ _ _ _ (@hv _ 2 _ _ (by rfl) (by walk_at "3") (by decide) (by decide)) (@a0a _ _ _ _ _ a0g a0f (by rfl)) (by rfl))) a0f)) a0f) (by rfl)) (by rfl) (by decide) (by rfl) (by rfl)) a0f (by rfl)) (by rfl)) (by rfl)) (by rfl) (by decide) (by rfl) (by rfl)) (by rfl)) (@a0c _ _ _ _ _ (@a0D _ _ _ _ 6 _ _ (@a0m _ _ _ _ _ _ _ _ _ _ D_multiplied hr (@a0a _ _ _ _ _ (@hv _ 5 _ _ (by rfl) (by walk_at "3") (by decide) (by decide)) (@a1Q _ _ _ _ _ _ _ (@a3a _ _ _ _ _ (@a1Q _ _ _ _ _ _ _ (@a3a _ _ _ _ _ (@a0a _ _ _ _ _ (@h_un _ _ _ _ _ _ a2w (@hv _ 2 _ _ (by rfl) (by walk_at "3") (by decide) (by decide))) (@a0a _ _ _ _ _ a0g a0f (by rfl)) (by rfl))) a0f)) a0f) (by rfl)) (by rfl) (by decide) (by rfl) (by rfl)) a0Z.nd (by rfl) (by walk_at "2") (by rfl) (by walk_at "4")) (@a0h _ _ _ (@s_if _ _ _ _ _ _ _ _ (@a3p _ _ _ (@a0m _ _ _ _ _ _ _ _ _ _ D_makes_loop hr (@a0a _ _ _ _ _ (@hv _ 4 _ _ (by rfl) (by walk_at "3") (by decide) (by decide)) (@a0a _ _ _ _ _ (@a0B _ _ _ _ _ _ _ _ _ a3H Z.b_abs PyProof.Rows.boot_abs (@a0a _ _ _ _ _ (@hv _ 1 _ _ (by rfl) (by walk_at "3") (by decide) (by decide)) a0f (by rfl)) (by rfl) (by decide) (by decide) (by rfl) (by rfl)) a0f (by rfl)) (by rfl)) (by rfl) (by decide) (by rfl) (by rfl)) (by intro _; rfl)) (@a0h _ _ _ (@a2U _ _ _ _ (@a0m _ _ _ _ _ _ _ _ _ _ D_put_in hr (@a0a _ _ _ _ _ (@hv _ 3 _ _ (by rfl) (by walk_at "3") (by decide) (by decide)) (@a0a _ _ _ _ _ (@hv _ 4 _ _ (by rfl) (by walk_at "3") (by decide) (by decide)) (@a0a _ _ _ _ _ (@a0m _ _ _ _ _ _ _ _ _ _ D_multiplied hr (@a0a _ _ _ _ _ (@hv _ 6 _ _ (by rfl) (by walk_at "3") (by decide) (by decide)) (@a0a _ _ _ _ _ (@a3B _ _ _ _ _ c_LOOP (by rfl) (by decide)) a0f (by rfl)) (by rfl)) (by rfl) (by decide) (by rfl) (by rfl)) a0f (by rfl)) (by rfl)) (by rfl)) (by rfl) (by decide) (by rfl) (by rfl)) (by rfl))) (@a0h _ _ _ (@a2U _ _ _ _ (@a0m _ _ _ _ _ _ _ _ _ _ D_put_in hr (@a0a _ _ _ _ _ (@hv _ 3 _ _ (by rfl) (by walk_at "3") (by decide) (by decide)) (@a0a _ _ _ _ _ (@a0m _ _ _ _ _ _ _ _ _ _ D_with_hook hr (@a0a _ _ _ _ _ (@hv _ 4 _ _ (by rfl) (by walk_at "3") (by decide) (by decide)) (@a0a _ _ _ _ _ (@a0B _ _ _ _ _ _ _ _ _ a3H Z.b_abs PyProof.Rows.boot_abs (@a0a _ _ _ _ _ (@hv _ 1 _ _ (by rfl) (by walk_at "3") (by decide) (by decide)) a0f (by rfl)) (by rfl) (by decide) (by decide) (by rfl) (by rfl)) a0f (by rfl)) (by rfl)) (by rfl) (by decide) (by rfl) (by rfl)) (@a0a _ _ _ _ _ (@hv _ 6 _ _ (by rfl) (by walk_at "3") (by decide) (by decide)) a0f (by rfl)) (by rfl)) (by rfl)) (by rfl) (by decide) (by rfl) (by rfl)) (by rfl))))))) (by intro _; rfl)) (@a0h _ _ _ (@a1a _ _ _ _ (@hv _ 3 _ _ (by rfl) (by walk_at "3") (by decide) (by decide))))))), fun ts M Q h => ?_⟩
 unfold a1R at h
 split at h
 ·rename_i d l
  obtain ⟨m, b, D, hd, hm, hl, hD, hb, h⟩ := h
  refine a0e fun K1 hK1 => ?_
  walk_at "rd"
  unfold a1I
  dsimp only
  rw [hK1]; clear hK1
  refine a0e fun K2 hK2 => ?_
  walk_at "rd"
  intro p hp
  have hdp : d ≠ p := fun z => by rw [z, hp] at hd; cases hd
  have hMp : (updM M p (MO.dt [])) p = some (.dt (dtN [])) := a0d
  have hS := Sub.new hp (o := MO.dt [])
  have hd1 := hS _ _ hd
  generalize updM M p (MO.dt []) = M1 at hMp hS hd1 ⊢
  rw [hK2]; clear hK2
  refine a0e fun K3 hK3 => ?_
  refine a0K fun B hB => ?_
  unfold a2g
  walk_at "rd"
  rw [hd1]
  dsimp only
  refine ⟨_, b2e D, ?_⟩
  have hkeep : ∀ a o, a ≠ d → M a = some o → (updM M1 d (MO.fz (dtN D))) a = some o := fun a o ha ho => by rw [a0o ha]; exact hS _ _ ho
  have hMp2 : (updM M1 d (MO.fz (dtN D))) p = some (.dt (dtN [])) := by rw [a0o hdp.symm]; exact hMp
  generalize updM M1 d (MO.fz (dtN D)) = M2 at hkeep hMp2 ⊢
  clear hMp hS hd1
  refine ⟨fun i ρ M' => (∃ (x4 x5 x6 : Option T), ρ = [some (T.adr d), some (T.int l), some (T.int (sgI l)), some (T.adr p), x4, x5, x6]) ∧ M' p = some (.dt (dtN ((D.take i).foldl (wl1N l) []))) ∧ (∀ a o, a ≠ d → M a = some o → M' a = some o), ⟨⟨_, _, _, rfl⟩, hMp2, hkeep⟩, fun _ _ _ _ => trivial, ?_, ?_⟩
  ·rintro i x ρ M' hx ⟨⟨x4, x5, x6, rfl⟩, hMp, hk⟩
   obtain ⟨⟨N, q⟩, hdi, rfl⟩ : ∃ y, D[i]? = some y ∧ x = T.tup [T.dic (nI y.1) [], poT y.2] := by
    unfold prTs at hx
    rw [List.map_map, List.getElem?_map] at hx
    obtain ⟨y, h1, h2⟩ := Option.map_eq_some_iff.mp hx
    exact ⟨y, h1, h2.symm⟩
   obtain ⟨hN, hq⟩ := hD.2 _ (List.mem_of_getElem? hdi)
   dsimp only at hN hq
   have hsg : sgI l = 1 ∨ sgI l = -1 := by unfold sgI; split <;> simp
   have hE : DOK m (b + 3) ((D.take i).foldl (wl1N l) []) := DOK.foldl hm hl _ _ (DOK.nil m _) fun y hy => hD.2 y (List.mem_of_mem_take hy)
   have hE2 : (D.take (i + 1)).foldl (wl1N l) [] = wl1N l ((D.take i).foldl (wl1N l) []) (N, q) := by
    rw [List.take_add_one, hdi, List.foldl_append]; rfl
   generalize (D.take i).foldl (wl1N l) [] = E at hMp hE hE2
   have g1 := (hq.mul (GdE.mono1 hsg)).up 1 (c := b + 3) (by lia)
   have g2 := hq.mul (GdE.mono1 (s := -sgI l) (by lia))
   dsimp only
   refine ⟨rfl, rfl, ?_⟩
   rw [hB]; clear hB
   refine a0e fun K4 hK4 => ?_
   walk_at "rd"
   refine ⟨by decide, by decide, a2Y (q := [(sgI l, 1)]) hq (GdE.mono1 hsg) (by lia) (.inr (Sml.one1 _)) ?_⟩
   refine ⟨m, b + 3, E, N, _, hMp, rfl, rfl, hN, hE, g1, by lia, ?_⟩
   have hMp3 : (updM M' p (.dt (dtN (addD E N (a1l q [(sgI l, 1)]))))) p = some (.dt (dtN (addD E N (a1l q [(sgI l, 1)])))) := a0d
   have hk3 : ∀ a o, a ≠ d → M a = some o → (updM M' p (.dt (dtN (addD E N (a1l q [(sgI l, 1)]))))) a = some o := fun a o ha ho => by
    rw [a0o (fun z => by rw [z, hp] at ho; cases ho)]; exact hk a o ha ho
   have hE3 := hE.add hN g1
   have ew : wl1N l E (N, q) = (if mlN N l.natAbs then addD (addD E N (a1l q [(sgI l, 1)])) N (a1l (a1l q [(-sgI l, 1)]) lpP) else addD (addD E N (a1l q [(sgI l, 1)])) (hkN N l.natAbs) (a1l q [(-sgI l, 1)])) := rfl
   rw [ew] at hE2
   clear ew
   generalize addD E N (a1l q [(sgI l, 1)]) = E2 at hMp3 hk3 hE3 hE2 ⊢
   generalize updM M' p (.dt (dtN E2)) = M3 at hMp3 hk3 ⊢
   clear hMp hk hE
   show K4 _ _
   rw [hK4]; clear hK4
   refine a0e fun K5 hK5 => ?_
   walk_at "rd"
   refine ⟨by decide, by decide, a2Y (q := [(-sgI l, 1)]) hq (GdE.mono1 (by lia)) (by lia) (.inr (Sml.one1 _)) ?_⟩
   show K5 _ _
   rw [hK5]; clear hK5
   walk_at "rd"
   refine ⟨m, l.natAbs, N, rfl, rfl, hm, hN, hl.1, hl.2, ?_⟩
   dsimp only
   have fin : ∀ (E3 : DN) (M4 : MH), (D.take (i + 1)).foldl (wl1N l) [] = E3 → (∀ a o, a ≠ d → M a = some o → M4 a = some o) → (∃ x4 x5 x6, ([some (T.adr d), some (T.int l), some (T.int (sgI l)), some (T.adr p), some (T.dic (nI N) []), some (poT q), some (poT (a1l q [(-sgI l, 1)]))] : En) = [some (T.adr d), some (T.int l), some (T.int (sgI l)), some (T.adr p), x4, x5, x6]) ∧ (updM M4 p (.dt (dtN E3))) p = some (MO.dt (dtN (List.foldl (wl1N l) [] (List.take (i + 1) D)))) ∧ ∀ (a : Addr) (o : MO), a ≠ d → M a = some o → (updM M4 p (.dt (dtN E3))) a = some o := fun E3 M4 e hk4 => by
    refine ⟨⟨_, _, _, rfl⟩, by rw [e]; exact a0d, fun a o ha ho => ?_⟩
    rw [a0o (fun z => by rw [z, hp] at ho; cases ho)]; exact hk4 a o ha ho
   by_cases c : mlN N l.natAbs = true
   ·rw [if_pos c] at hE2 ⊢
    refine a2Y (q := lpP) g2 GdE.lp (by lia) (.inr Sml.lp) ?_
    exact ⟨m, b + 3, E2, N, _, hMp3, rfl, rfl, hN, hE3, g2.mul GdE.lp, by lia, fin _ _ hE2 hk3⟩
   ·rw [if_neg c] at hE2 ⊢
    refine ⟨m, l.natAbs, N, rfl, rfl, hm, hN, hl.1, hl.2, fun M4 hS4 => ?_⟩
    have hN2 := ((a6B hm hN).2.2 _ hl.1 hl.2 (by simpa using c)).2
    exact ⟨m, b + 3, E2, _, _, hS4 _ _ hMp3, rfl, rfl, hN2, hE3, g2.up 1 (by lia), by lia, fin _ _ hE2 fun a o ha ho => hS4 _ _ (hk3 a o ha ho)⟩
  ·rintro ρ M' ⟨⟨x4, x5, x6, rfl⟩, hMp, hk⟩
   rw [hK3]
   walk_at "rd"
   rw [a3Y, List.length_map, List.take_length] at hMp
   exact a0j (h p M' hp hk hMp)
 ·exact h.elim
noncomputable def seK (S : List Nat) : List (Key × T) := List.map (fun (k : Nat) => ((.inl (k : Int) : Key), T.bl true)) S
theorem b0T (S : List Nat) : (seK S).length = S.length := List.length_map ..
theorem b0U (k : Nat) : ∀ S : List Nat, (valT (seK S) (.inl (k : Int))).isSome = S.contains k
 | [] => rfl
 | x :: S => by
   have ih := b0U k S
   show (((((.inl (x : Int) : Key), T.bl true) :: seK S).find? fun kv => decide (kv.1 = .inl (k : Int))).map (·.2)).isSome = _
   rw [List.contains_cons]
   by_cases c : x = k
   ·subst c
    rw [List.find?_cons, decide_eq_true rfl, beq_self_eq_true]; rfl
   ·rw [List.find?_cons, decide_eq_false (show ¬ (Sum.inl (x : Int) : Key) = .inl (k : Int) from fun z => c (Int.ofNat.inj (Sum.inl.inj z))), beq_eq_false_iff_ne.mpr (fun z => c z.symm), Bool.false_or]
    exact ih
theorem b0S (k : Nat) (S : List Nat) : putT (seK S) (.inl (k : Int)) (.bl true) = seK (insN S k) := by
 have e : ((seK S).any fun kv => decide (kv.1 = .inl (k : Int))) = S.contains k := by
  induction S with
  | nil => rfl
  | cons x S ih =>
    show (decide ((Sum.inl (x : Int) : Key) = .inl (k : Int)) || (seK S).any fun kv => decide (kv.1 = .inl (k : Int))) = _
    rw [List.contains_cons, ih]
    congr 1
    by_cases c : x = k
    ·rw [c, decide_eq_true rfl, beq_self_eq_true]
    ·rw [decide_eq_false (show ¬ (Sum.inl (x : Int) : Key) = .inl (k : Int) from fun z => c (Int.ofNat.inj (Sum.inl.inj z))), beq_eq_false_iff_ne.mpr (fun z => c z.symm)]
 unfold putT insN
 rw [e]
 by_cases c : S.contains k = true
 ·rw [if_pos c, if_pos c]
  unfold seK
  rw [List.map_map]
  refine List.map_congr_left fun x _ => ?_
  show (if (Sum.inl (x : Int) : Key) = .inl (k : Int) then _ else _) = _
  split <;> rfl
 ·rw [if_neg c, if_neg c]
  unfold seK
  rw [List.map_append]; rfl
theorem b1S {S : List Nat} {k b : Nat} (h : S.Nodup ∧ ∀ x ∈ S, x < b) (hk : k < b) : (insN S k).Nodup ∧ ∀ x ∈ insN S k, x < b := by
 unfold insN
 by_cases c : S.contains k = true
 ·rw [if_pos c]; exact h
 ·rw [if_neg c]
  have hn : k ∉ S := fun z => c (List.contains_iff_mem.mpr z)
  refine ⟨List.nodup_append.mpr ⟨h.1, List.pairwise_singleton _ _, fun a ha x hx => by rw [List.mem_singleton.mp hx]; exact fun z => hn (z ▸ ha)⟩, fun x hx => ?_⟩
  rcases List.mem_append.mp hx with z | z
  ·exact h.2 x z
  ·rw [List.mem_singleton.mp z]; exact hk
theorem b5x (S : List Nat) (k : Nat) : S.length ≤ (insN S k).length := by
 unfold insN
 split
 ·exact Nat.le_refl _
 ·rw [List.length_append]; exact Nat.le_add_right _ _
theorem b7l {S : List Nat} {b : Nat} (h : S.Nodup ∧ ∀ x ∈ S, x < b) : S.length ≤ b := by
 have := List.Nodup.length_le_of_subset h.1 (l₂ := List.range b) fun x hx => List.mem_range.mpr (h.2 x hx)
 rwa [List.length_range] at this
noncomputable def a1p : Sp3 := fun ts M Q => match ts with
 | [.dic ks _] => ∃ (m : Nat) (N : Nst), ks = nI N ∧ Cm m ∧ N ∈ nsts m ∧ ∀ M', Sub M M' → Q (.int (lpN N : Nat)) M'
 | _ => False
theorem a4I {P : Program} {w : World} {K : PySem.W.Frag} {mg : Str → Option Value} {base : Heap} {f : Addr} {fd : FuncData} {n : Nat}  (F : Fun K "loops_of_nest" "loops_of_nest" a0R f fd) (hm : mg "loops_of_nest" = some (.ref f)) (hb : a0Y K fd ["nest"] []) (Z : Zs K mg)  : Df P w K mg base (n + 1) "loops_of_nest" ["nest"] a1p := by
 refine F.dfn hm hb a0w (by intro ts M Q h; unfold a1p at h; first | (split at h <;> first | rfl | exact h.elim) | (obtain ⟨_, _, _, _, _, rfl, _⟩ := h; rfl) | (obtain ⟨_, _, _, _, rfl, _⟩ := h; rfl) | (obtain ⟨_, _, _, rfl, _⟩ := h; rfl) | (obtain ⟨_, _, rfl, _⟩ := h; rfl) | (obtain ⟨_, rfl, _⟩ := h; rfl)) ⟨_, fun cdv A outer s H E hr => (@a0c _ _ _ _ _ (@a0D _ _ _ _ 1 _ _ (@a0i _ _ _ _ _ _ _ _ a3Z (@a0B _ _ _ _ _ _ _ _ _ a0E Z.b_len PySem.boot_len (@a0a _ _ _ _ _ (@a3u _ _ _ (@hv _ 0 _ _ (by rfl) (by walk_at "3") (by decide) (by decide))) a0f (by rfl)) (by rfl) (by decide) (by decide) (by rfl) (by rfl)) a0g) a0w.nd (by rfl) (by walk_at "2") (by rfl) (by walk_at "4")) (@a0c _ _ _ _ _ (@a0D _ _ _ _ 2 _ _ a9D a0w.nd (by rfl) (by walk_at "2") (by rfl) (by walk_at "4")) (@a0c _ _ _ _ _ (@a0D _ _ _ _ 3 _ _ a0g a0w.nd (by rfl) (by walk_at "2") (by rfl) (by walk_at "4")) (@a0c _ _ _ _ _ (@a2H _ _ _ _ _ _ _ _ PassesOwn.never rfl (@a1U _ _ _ _ _ _ Z.b_range (@a0a _ _ _ _ _ (@hv _ 1 _ _ (by rfl) (by walk_at "3") (by decide) (by decide)) a0f (by rfl)) (by rfl) (by rfl)) (@a0J _ _ 4 _ a0w.nd (by rfl) (by walk_at "2") (by walk_at "4")) (@a0c _ _ _ _ _ (@s_if _ _ _ _ _ _ _ _ (@a1X _ _ _ _ _ _ _ _ (@a5N _ hr.units) (@hv _ 4 _ _ (by rfl) (by walk_at "3") (by decide) (by decide)) (@hv _ 2 _ _ (by rfl) (by walk_at "3") (by decide) (by decide)) rfl) (@a0h _ _ _ (@b6y _ 3 _ _ _ _ _ _ _ b7w a0g a0w.nd (by rfl) (by walk_at "2") (by walk_at "4"))) a2y) (@a0c _ _ _ _ _ (@a0D _ _ _ _ 5 _ _ (@hv _ 4 _ _ (by rfl) (by walk_at "3") (by decide) (by decide)) a0w.nd (by rfl) (by walk_at "2") (by rfl) (by walk_at "4")) (@a0h _ _ _ (@b0Z _ _ _ _ _ _ PassesOwn.never (@a1X _ _ _ _ _ _ _ _ (@a5N _ hr.units) (@hv _ 5 _ _ (by rfl) (by walk_at "3") (by decide) (by decide)) (@hv _ 2 _ _ (by rfl) (by walk_at "3") (by decide) (by decide)) rfl) (@a0c _ _ _ _ _ (@b1b _ _ _ _ _ _ _ _ _ hr.units h_bl (@hv _ 2 _ _ (by rfl) (by walk_at "3") (by decide) (by decide)) (@hv _ 5 _ _ (by rfl) (by walk_at "3") (by decide) (by decide)) (by rfl)) (@a0c _ _ _ _ _ (@b1b _ _ _ _ _ _ _ _ _ hr.units h_bl (@hv _ 2 _ _ (by rfl) (by walk_at "3") (by decide) (by decide)) (@h_ix _ _ _ _ _ _ (@a3u _ _ _ (@hv _ 0 _ _ (by rfl) (by walk_at "3") (by decide) (by decide))) (@hv _ 5 _ _ (by rfl) (by walk_at "3") (by decide) (by decide)) (by intro _ _; rfl)) (by rfl)) (@a0h _ _ _ (@a0D _ _ _ _ 5 _ _ (@a0i _ _ _ _ _ _ _ _ a2S (@a0i _ _ _ _ _ _ _ _ a0r (@h_ix _ _ _ _ _ _ (@a3u _ _ _ (@hv _ 0 _ _ (by rfl) (by walk_at "3") (by decide) (by decide))) (@hv _ 5 _ _ (by rfl) (by walk_at "3") (by decide) (by decide)) (by intro _ _; rfl)) (@hv _ 1 _ _ (by rfl) (by walk_at "3") (by decide) (by decide))) (@a0B _ _ _ _ _ _ _ _ _ a0E Z.b_len PySem.boot_len (@a0a _ _ _ _ _ (@a3u _ _ _ (@hv _ 0 _ _ (by rfl) (by walk_at "3") (by decide) (by decide))) a0f (by rfl)) (by rfl) (by decide) (by decide) (by rfl) (by rfl))) a0w.nd (by rfl) (by walk_at "2") (by rfl) (by walk_at "4"))))))))) (by intro _; rfl)) (@a0h _ _ _ (@a1a _ _ _ _ (@hv _ 3 _ _ (by rfl) (by walk_at "3") (by decide) (by decide)))))))), fun ts M Q h => ?_⟩
 unfold a1p at h
 split at h
 ·rename_i ks e
  obtain ⟨m, N, rfl, hm, hN, h⟩ := h
  have hl := (a6B hm hN).1
  have hm6 := hm.2
  refine a0e fun K1 hK1 => ?_
  walk_at "rd"
  refine ⟨by unfold b0B; decide, ?_⟩
  rw [a9u, hl, show ((2 * m : Nat) : Int) / 2 = (m : Int) by lia, hK1]; clear hK1
  refine a0e fun K2 hK2 => ?_
  walk_at "rd"
  intro p hp
  have hMp : (updM M p (MO.dk [])) p = some (.dk []) := a0d
  have hS := Sub.new hp (o := MO.dk [])
  generalize updM M p (MO.dk []) = M1 at hMp hS ⊢
  rw [hK2]; clear hK2
  refine a0e fun K3 hK3 => ?_
  walk_at "rd"
  rw [hK3]; clear hK3
  refine a0e fun K4 hK4 => ?_
  refine a0K fun B hB => ?_
  unfold a2g
  walk_at "rd"
  refine ⟨by lia, by lia, fun i ρ M' => (∃ (S : List Nat) (c : Nat) (x4 x5 : Option T), ρ = [some (T.dic (nI N) e), some (T.int (m : Nat)), some (T.adr p), some (T.int (c : Nat)), x4, x5] ∧ M' p = some (.dk (seK S)) ∧ (S.Nodup ∧ ∀ x ∈ S, x < 2 * m) ∧ c + lpS N (m - i) i S = lpN N) ∧ Sub M M', ⟨⟨[], 0, _, _, rfl, hMp, ⟨.nil, fun _ z => absurd z List.not_mem_nil⟩, ?_⟩, hS⟩, fun _ _ _ _ => trivial, ?_, ?_⟩
  ·unfold lpN
   rw [hl, Nat.zero_add, show 2 * m / 2 = m by lia]; rfl
  ·rintro i x ρ M' hx ⟨⟨S, c, x4, x5, rfl, hMp, hSd, hc⟩, hS⟩
   obtain ⟨hi, rfl⟩ := a0P hx
   have him : i < m := by lia
   rw [show m - i = (m - (i + 1)) + 1 by lia] at hc
   have hc : c + ((if S.contains i then 0 else 1) + lpS N (m - (i + 1)) (i + 1) (wkN N (N.length + 1) S i)) = lpN N := hc
   rw [hB]; clear hB
   refine a0e fun K5 hK5 => ?_
   walk_at "rd"
   rw [hMp]
   dsimp only
   refine ⟨.inl (i : Int), rfl, ?_⟩
   rw [b0U]
   have cont : ∀ (c2 : Nat), c2 + lpS N (m - (i + 1)) (i + 1) (wkN N (N.length + 1) S i) = lpN N → K5 [some (T.dic (nI N) e), some (T.int (m : Nat)), some (T.adr p), some (T.int (c2 : Nat)), some (T.int (i : Nat)), x5] M' := fun c2 hc2 => by
    rw [hK5]; clear hK5
    refine a0e fun K6 hK6 => ?_
    walk_at "rd"
    rw [hK6]; clear hK6
    refine b0C fun C hC => ?_
    unfold a4S
    refine ⟨fun ms ρ M2 => ∃ (f : Nat) (S' : List Nat) (a : Nat), ρ = [some (T.dic (nI N) e), some (T.int (m : Nat)), some (T.adr p), some (T.int (c2 : Nat)), some (T.int (i : Nat)), some (T.int (a : Nat))] ∧ M2 p = some (.dk (seK S')) ∧ (S'.Nodup ∧ ∀ x ∈ S', x < 2 * m) ∧ a < 2 * m ∧ wkN N f S' a = wkN N (N.length + 1) S i ∧ 2 * m + 1 ≤ f + S'.length ∧ ms = 2 * m - S'.length ∧ Sub M M2, ⟨_, N.length + 1, S, i, rfl, hMp, hSd, by lia, rfl, by lia, rfl, hS⟩, ?_⟩
    rintro ms ρ M2 ⟨f, S', a, rfl, hM2, hd', ha, hw, hf, rfl, hS2⟩
    have hle := b7l hd'
    obtain ⟨g, rfl⟩ : ∃ g, f = g + 1 := ⟨f - 1, by lia⟩
    have hw2 : (if S'.contains a then S' else wkN N g (insN (insN S' a) (gN N a)) ((gN N a + N.length / 2) % N.length)) = wkN N (N.length + 1) S i := hw
    walk_at "rd"
    rw [hM2]
    dsimp only
    refine ⟨.inl (a : Int), rfl, ?_⟩
    rw [b0U]
    have hca : S'.contains a = true ↔ a ∈ S' := List.contains_iff_mem
    refine ite2 (fun c1 => ?_) (fun c1 => ?_)
    ·rw [if_neg (by rw [c1]; decide)] at hw2
     have hna : a ∉ S' := fun z => by rw [hca.mpr z] at c1; cases c1
     have hga := (a4F hm hN ha).1
     have hl1 : (insN S' a).length = S'.length + 1 := by
      unfold insN
      rw [if_neg (by rw [c1]; decide), List.length_append]; rfl
     have hd1 := b1S hd' ha
     have hd2 := b1S hd1 hga
     have hl2 := b5x (insN S' a) (gN N a)
     have hle2 := b7l hd2
     rw [hC]; clear hC
     refine a0e fun K7 hK7 => ?_
     walk_at "rd"
     rw [hM2]
     dsimp only
     refine ⟨.inl (a : Int), rfl, a0C (by rw [b0T]; lia), ?_⟩
     rw [b0S]
     have hM3 : (updM M2 p (.dk (seK (insN S' a)))) p = some (.dk (seK (insN S' a))) := a0d
     have hS3 := hS2.updF hp (o := .dk (seK (insN S' a)))
     generalize updM M2 p (.dk (seK (insN S' a))) = M3 at hM3 hS3 ⊢
     rw [hK7]; clear hK7
     refine a0e fun K8 hK8 => ?_
     walk_at "rd"
     rw [b1A (by lia : a < N.length)]
     dsimp only
     rw [hM3]
     dsimp only
     refine ⟨.inl (gN N a : Nat), rfl, a0C (by rw [b0T]; lia), ?_⟩
     rw [b0S]
     have hM4 : (updM M3 p (.dk (seK (insN (insN S' a) (gN N a))))) p = some (.dk (seK (insN (insN S' a) (gN N a)))) := a0d
     have hS4 := hS3.updF hp (o := .dk (seK (insN (insN S' a) (gN N a))))
     generalize updM M3 p (.dk (seK (insN (insN S' a) (gN N a)))) = M4 at hM4 hS4 ⊢
     rw [hK8]; clear hK8
     walk_at "rd"
     rw [b1A (by lia : a < N.length)]
     dsimp only
     rw [a9u, hl]
     have em : (((gN N a : Nat) : Int) + (m : Nat)) % ((2 * m : Nat) : Int) = (((gN N a + N.length / 2) % N.length : Nat) : Int) := by rw [hl, show 2 * m / 2 = m by lia]; lia
     rw [em]
     rw [hl] at hw2
     refine ⟨by lia, _, ?_, g, _, _, rfl, hM4, hd2, ?_, by rw [hl]; exact hw2, by lia, rfl, hS4⟩
     ·lia
     ·rw [hl]; exact Nat.mod_lt _ (by lia)
    ·have c2' : S'.contains a = true := by simpa using c1
     rw [if_pos c2'] at hw2
     rw [← hw2] at hc2
     exact ⟨⟨S', c2, _, _, rfl, rfl, hd', hc2⟩, hS2⟩
   refine ite2 (fun c1 => ?_) (fun c1 => ?_)
   ·rw [if_neg (by rw [c1]; decide)] at hc
    exact cont (c + 1) (by lia)
   ·rw [if_pos (by simpa using c1)] at hc
    exact cont c (by lia)
  ·rintro ρ M' ⟨⟨S, c, x4, x5, rfl, hMp, hSd, hc⟩, hS⟩
   rw [a0t, show ((m : Nat) : Int).toNat = m by lia, Nat.sub_self] at hc
   rw [hK4]
   walk_at "rd"
   rw [show c = lpN N from hc]
   exact a0j (h M' hS)
 ·exact h.elim
theorem a6V (d : Nst × Po) : ∀ (D : DN) (a : Po), sumD (D ++ [d]) a = addP (sumD D a) (a1l d.2 (dP (lpN d.1 - 1)))
 | [], a => rfl
 | x :: D, a => a6V d D _
theorem a4j {m b : Nat} (hm : Cm m) (hb : (b : Int) % 1 = 0) : ∀ (D : DN) (a : Po), GdE (b + 2 * m) a → (∀ d ∈ D, d.1 ∈ nsts m ∧ GdE b d.2) → GdE (b + 2 * m) (sumD D a)
 | [], a, h, _ => h
 | d :: D, a, h, hD => by
   obtain ⟨h1, h2⟩ := hD d (.head _)
   have l1 := a7r hm h1
   have l2 := a9x hm h1
   exact a4j hm hb D _ (h.add ((h2.mul (a4c (lpN d.1 - 1))).up (m - (lpN d.1 - 1)) (by lia))) fun x hx => hD x (.tail _ hx)
theorem a7o {m : Nat} (hm : Cm m) {w : List Int} (hw : ∀ l ∈ w, LetN m l) : sumD (dcW m w) [] = (stS m w).1 := by
 refine b6Q (a4j (b := 3 * w.length) hm (by lia) _ _ (GdE.nil _) (a9L hm hw).2).1 ?_
 rw [b0M, b7U, show toL [] = 0 from b2J]
 unfold stS
 grind
theorem b2N {m : Nat} (hm : Cm m) {w : List Int} (hw : ∀ l ∈ w, LetN m l) : GdE (3 * w.length + 2 * m) (stS m w).1 := by
 rw [← a7o hm hw]
 exact a4j (b := 3 * w.length) hm (by lia) _ _ (GdE.nil _) (a9L hm hw).2
noncomputable def a3g : Sp3 := fun ts M Q => match ts with
 | [.tup [.int n, .tup w]] => ∃ ws : List Int, w = ws.map .int ∧ PlOK n ws ∧ ∀ M', Sub M M' → Q (poT (stS n.toNat ws).1) M'
 | _ => False
theorem a8w {P : Program} {w : World} {K : PySem.W.Frag} {mg : Str → Option Value} {base : Heap} {f : Addr} {fd : FuncData} {n : Nat}  (F : Fun K "by_nests" "by_nests" a2s f fd) (hm : mg "by_nests" = some (.ref f)) (hb : a0Y K fd ["plait"] []) (Z : Zs K mg) (D_looked : Df P w K mg base n "looked" ["plait"] a3v) (D_plain_nest : Df P w K mg base n "plain_nest" ["strands"] a2h) (D_with_letter : Df P w K mg base n "with_letter" ["worths", "letter"] a1R) (D_loop_worths : Df P w K mg base n "loop_worths" ["most"] a1n) (D_added : Df P w K mg base n "added" ["one", "other"] a3h) (D_multiplied : Df P w K mg base n "multiplied" ["one", "other"] a0N) (D_loops_of_nest : Df P w K mg base n "loops_of_nest" ["nest"] a1p) : Df P w K mg base (n + 1) "by_nests" ["plait"] a3g := by
 obtain ⟨tk_ONE, c_ONE⟩ := Z.c_ONE
 obtain ⟨tk_NOUGHT, c_NOUGHT⟩ := Z.c_NOUGHT
 refine F.dfn hm hb a0W (by intro ts M Q h; unfold a3g at h; first | (split at h <;> first | rfl | exact h.elim) | (obtain ⟨_, _, _, _, _, rfl, _⟩ := h; rfl) | (obtain ⟨_, _, _, _, rfl, _⟩ := h; rfl) | (obtain ⟨_, _, _, rfl, _⟩ := h; rfl) | (obtain ⟨_, _, rfl, _⟩ := h; rfl) | (obtain ⟨_, rfl, _⟩ := h; rfl)) ⟨_, fun cdv A outer s H E hr => (@a0c _ _ _ _ _ (@a2U _ _ _ _ (@a0m _ _ _ _ _ _ _ _ _ _ D_looked hr (@a0a _ _ _ _ _ (@hv _ 0 _ _ (by rfl) (by walk_at "3") (by decide) (by decide)) a0f (by rfl)) (by rfl) (by decide) (by rfl) (by rfl)) (by rfl)) (@a0c _ _ _ _ _ (@a0D _ _ _ _ 1 _ _ (@b5C _ _ _ _ _ _ hr.units (@a0m _ _ _ _ _ _ _ _ _ _ D_plain_nest hr (@a0a _ _ _ _ _ (@h_ix _ _ _ _ _ _ (@hv _ 0 _ _ (by rfl) (by walk_at "3") (by decide) (by decide)) a0g (by intro _ _; rfl)) a0f (by rfl)) (by rfl) (by decide) (by rfl) (by rfl)) (@a3B _ _ _ _ _ c_ONE (by rfl) (by decide))) a0W.nd (by rfl) (by walk_at "2") (by rfl) (by walk_at "4")) (@a0c _ _ _ _ _ (@a2H _ _ _ _ _ _ _ _ PassesOwn.never rfl (@a3P _ _ _ _ (@h_ix _ _ _ _ _ _ (@hv _ 0 _ _ (by rfl) (by walk_at "3") (by decide) (by decide)) a0g (by intro _ _; rfl))) (@a0J _ _ 2 _ a0W.nd (by rfl) (by walk_at "2") (by walk_at "4")) (@a0h _ _ _ (@a0D _ _ _ _ 1 _ _ (@a0m _ _ _ _ _ _ _ _ _ _ D_with_letter hr (@a0a _ _ _ _ _ (@hv _ 1 _ _ (by rfl) (by walk_at "3") (by decide) (by decide)) (@a0a _ _ _ _ _ (@hv _ 2 _ _ (by rfl) (by walk_at "3") (by decide) (by decide)) a0f (by rfl)) (by rfl)) (by rfl) (by decide) (by rfl) (by rfl)) a0W.nd (by rfl) (by walk_at "2") (by rfl) (by walk_at "4"))) (by intro _; rfl)) (@a0c _ _ _ _ _ (@a0D _ _ _ _ 3 _ _ (@a0m _ _ _ _ _ _ _ _ _ _ D_loop_worths hr (@a0a _ _ _ _ _ (@h_ix _ _ _ _ _ _ (@hv _ 0 _ _ (by rfl) (by walk_at "3") (by decide) (by decide)) a0g (by intro _ _; rfl)) a0f (by rfl)) (by rfl) (by decide) (by rfl) (by rfl)) a0W.nd (by rfl) (by walk_at "2") (by rfl) (by walk_at "4")) (@a0c _ _ _ _ _ (@a0D _ _ _ _ 4 _ _ (@a3B _ _ _ _ _ c_NOUGHT (by rfl) (by decide)) a0W.nd (by rfl) (by walk_at "2") (by rfl) (by walk_at "4")) (@a0c _ _ _ _ _ (@a2H _ _ _ _ _ _ _ _ PassesOwn.never rfl (@b1T _ _ _ _ _ _ _ _ (@hv _ 1 _ _ (by rfl) (by walk_at "3") (by decide) (by decide)) (by rfl) (by rfl)) (@a7H _ _ _ _ _ 2 rfl (@a1m _ _ _ _ _ (@a0J _ _ 5 _ a0W.nd (by rfl) (by walk_at "2") (by walk_at "4")) (@a1m _ _ _ _ _ (@a0J _ _ 6 _ a0W.nd (by rfl) (by walk_at "2") (by walk_at "4")) a4H (by rfl)) (by rfl)) (by rfl) (by rfl)) (@a0h _ _ _ (@a0D _ _ _ _ 4 _ _ (@a0m _ _ _ _ _ _ _ _ _ _ D_added hr (@a0a _ _ _ _ _ (@hv _ 4 _ _ (by rfl) (by walk_at "3") (by decide) (by decide)) (@a0a _ _ _ _ _ (@a0m _ _ _ _ _ _ _ _ _ _ D_multiplied hr (@a0a _ _ _ _ _ (@hv _ 6 _ _ (by rfl) (by walk_at "3") (by decide) (by decide)) (@a0a _ _ _ _ _ (@h_ix _ _ _ _ _ _ (@hv _ 3 _ _ (by rfl) (by walk_at "3") (by decide) (by decide)) (@a0m _ _ _ _ _ _ _ _ _ _ D_loops_of_nest hr (@a0a _ _ _ _ _ (@hv _ 5 _ _ (by rfl) (by walk_at "3") (by decide) (by decide)) a0f (by rfl)) (by rfl) (by decide) (by rfl) (by rfl)) (by intro _ _; rfl)) a0f (by rfl)) (by rfl)) (by rfl) (by decide) (by rfl) (by rfl)) a0f (by rfl)) (by rfl)) (by rfl) (by decide) (by rfl) (by rfl)) a0W.nd (by rfl) (by walk_at "2") (by rfl) (by walk_at "4"))) (by intro _; rfl)) (@a0h _ _ _ (@a1a _ _ _ _ (@hv _ 4 _ _ (by rfl) (by walk_at "3") (by decide) (by decide)))))))))), fun ts M Q h => ?_⟩
 unfold a3g at h
 split at h
 ·rename_i n w
  obtain ⟨ws, rfl, ok, h⟩ := h
  obtain ⟨n1, n6, hl, hw⟩ := id ok
  have hm : Cm n.toNat := ⟨by lia, by lia⟩
  have hlet := b5s hw
  refine a0e fun K1 hK1 => ?_
  walk_at "rd"
  refine ⟨ws, rfl, ok, ?_⟩
  show K1 _ _
  rw [hK1]; clear hK1
  refine a0e fun K2 hK2 => ?_
  walk_at "rd"
  intro p hp
  refine ⟨n.toNat, by lia, hm.1, hm.2, ?_⟩
  dsimp only
  refine ⟨a0d, ?_⟩
  have hMp : (updM (updM M p (MO.dt [])) p (MO.dt [(kyI (nI (plN n.toNat)), T.tup [T.tup [T.int 0, T.int 1]])])) p = some (.dt (dtN (dcW n.toNat []))) := a0d
  have hS : Sub M (updM (updM M p (MO.dt [])) p (MO.dt [(kyI (nI (plN n.toNat)), T.tup [T.tup [T.int 0, T.int 1]])])) := (Sub.new hp).updF hp
  generalize updM (updM M p (MO.dt [])) p (MO.dt [(kyI (nI (plN n.toNat)), T.tup [T.tup [T.int 0, T.int 1]])]) = M1 at hMp hS ⊢
  rw [hK2]; clear hK2
  refine a0e fun K3 hK3 => ?_
  refine a0K fun B hB => ?_
  unfold a2g
  walk_at "rd"
  refine ⟨fun i ρ M' => (∃ (q : Addr) (x2 x3 x4 x5 x6 : Option T), ρ = [some (T.tup [T.int n, T.tup (List.map T.int ws)]), some (T.adr q), x2, x3, x4, x5, x6] ∧ M q = none ∧ M' q = some (.dt (dtN (dcW n.toNat (ws.take i))))) ∧ Sub M M', ⟨⟨p, _, _, _, _, _, rfl, hp, hMp⟩, hS⟩, fun _ _ _ _ => trivial, ?_, ?_⟩
  ·rintro i x ρ M' hx ⟨⟨q, x2, x3, x4, x5, x6, rfl, hq, hMq⟩, hS⟩
   obtain ⟨l, hl1, rfl⟩ := a2D hx
   have hlm := hlet l (List.mem_of_getElem? hl1)
   have hD := a9L hm (w := ws.take i) fun y hy => hlet y (List.mem_of_mem_take hy)
   have hi := (List.getElem?_eq_some_iff.mp hl1).1
   have et : dcW n.toNat (ws.take (i + 1)) = wlN l (dcW n.toNat (ws.take i)) := by
    unfold dcW
    rw [List.take_add_one, hl1, List.foldl_append]; rfl
   rw [hB]; clear hB
   walk_at "rd"
   refine ⟨n.toNat, _, _, hMq, hm, hlm, hD, by rw [List.length_take]; lia, fun r M2 hr hk hMr => ?_⟩
   exact ⟨⟨r, _, _, _, _, _, rfl, a5g hS hr, by rw [et]; exact hMr⟩, fun a o ho => hk a o (fun z => by rw [z, hq] at ho; cases ho) (hS a o ho)⟩
  ·rintro ρ M' ⟨⟨q, x2, x3, x4, x5, x6, rfl, hq, hMq⟩, hS⟩
   try rw [List.length_map] at hMq
   rw [List.take_length] at hMq
   have hD := a9L hm (w := ws) hlet
   have hns := a7o hm hlet
   generalize dcW n.toNat ws = D at hMq hD hns
   rw [hK3]; clear hK3
   refine a0e fun K4 hK4 => ?_
   walk_at "rd"
   refine ⟨n.toNat, by lia, hm.1, by lia, fun r M2 hr hS2 hMr => ?_⟩
   show K4 _ _
   have hMq2 := hS2 _ _ hMq
   have hS3 := hS.trans hS2
   have hqr : q ≠ r := fun z => by rw [z, hr] at hMq; cases hMq
   rw [hK4]; clear hK4
   refine a0e fun K5 hK5 => ?_
   walk_at "rd"
   rw [hK5]; clear hK5
   refine a0e fun K6 hK6 => ?_
   refine a0K fun B2 hB2 => ?_
   unfold a2g
   walk_at "rd"
   rw [hMq2]
   dsimp only
   refine ⟨_, b2e D, ?_⟩
   have hMr2 : (updM M2 q (MO.fz (dtN D))) r = some (.lst ((lwL n.toNat).map poT)) := by rw [a0o hqr.symm]; exact hMr
   have hS4 := hS3.updF hq (o := MO.fz (dtN D))
   generalize updM M2 q (MO.fz (dtN D)) = M3 at hMr2 hS4 ⊢
   refine ⟨fun i ρ M' => (∃ (x2 x5 x6 : Option T), ρ = [some (T.tup [T.int n, T.tup (List.map T.int ws)]), some (T.adr q), x2, some (T.adr r), some (poT (sumD (D.take i) [])), x5, x6]) ∧ M' r = some (.lst ((lwL n.toNat).map poT)) ∧ Sub M M', ⟨⟨_, _, _, rfl⟩, hMr2, hS4⟩, fun _ _ _ _ => trivial, ?_, ?_⟩
   ·rintro i x ρ M' hx ⟨⟨x2, x5, x6, rfl⟩, hMr, hS⟩
    obtain ⟨⟨N, u⟩, hdi, rfl⟩ : ∃ y, D[i]? = some y ∧ x = T.tup [T.dic (nI y.1) [], poT y.2] := by
     unfold prTs at hx
     rw [List.map_map, List.getElem?_map] at hx
     obtain ⟨y, h1, h2⟩ := Option.map_eq_some_iff.mp hx
     exact ⟨y, h1, h2.symm⟩
    obtain ⟨hN, hu⟩ := hD.2 _ (List.mem_of_getElem? hdi)
    dsimp only at hN hu
    have l1 := a7r hm hN
    have l2 := a9x hm hN
    dsimp only
    refine ⟨rfl, rfl, ?_⟩
    rw [hB2]; clear hB2
    walk_at "rd"
    refine ⟨n.toNat, N, rfl, hm, hN, fun M4 hS5 => ?_⟩
    dsimp only
    rw [hS5 _ _ hMr]
    dsimp only
    have e0 : atI ((lwL n.toNat).map poT) ((lpN N : Nat) : Int) = some (poT (dP (lpN N - 1))) := by
     refine a2e ?_
     rw [List.getElem?_map, show lpN N = lpN N - 1 + 1 by lia, b1G (by lia)]; rfl
    rw [e0]
    dsimp only
    have g3 := a4j (b := 3 * ws.length) hm (by lia) (D.take i) [] (GdE.nil _) fun y hy => hD.2 y (List.mem_of_mem_take hy)
    have g2 := hu.mul (a4c (lpN N - 1))
    refine a2Y hu (a4c (lpN N - 1)) (by lia) (.inr (Sml.dP (by lia))) ?_
    refine a5w g3 (g2.up (n.toNat - (lpN N - 1)) (by lia)) (by lia) ?_
    have et : D.take (i + 1) = D.take i ++ [(N, u)] := by rw [List.take_add_one, hdi]; rfl
    rw [et, a6V]
    exact ⟨⟨_, _, _, rfl⟩, hS5 _ _ hMr, hS.trans hS5⟩
   ·rintro ρ M' ⟨⟨x2, x5, x6, rfl⟩, hMr, hS⟩
    rw [hK6]
    walk_at "rd"
    rw [a3Y, List.length_map, List.take_length, hns]
    exact a0j (h M' hS)
 ·exact h.elim
noncomputable def a2k : Sp3 := fun ts M Q => match ts with
 | [.rd s, .int k] => ∃ ns : List Int, s = ns.map .int ∧ 0 ≤ k ∧ k < 100 ∧ ∀ p c f, M p = none → Q (.adr p) (updM M p (.lst [.int c, .int f]))
 | _ => False
theorem a6y {P : Program} {w : World} {K : PySem.W.Frag} {mg : Str → Option Value} {base : Heap} {f : Addr} {fd : FuncData} {n : Nat}  (F : Fun K "_law_state" "_law_state" a1z f fd) (hm : mg "_law_state" = some (.ref f)) (hb : a0Y K fd ["script", "k"] []) (Z : Zs K mg)  : Df P w K mg base (n + 1) "_law_state" ["script", "k"] a2k := by
 refine F.dfn hm hb a3j (by intro ts M Q h; unfold a2k at h; first | (split at h <;> first | rfl | exact h.elim) | (obtain ⟨_, _, _, _, _, rfl, _⟩ := h; rfl) | (obtain ⟨_, _, _, _, rfl, _⟩ := h; rfl) | (obtain ⟨_, _, _, rfl, _⟩ := h; rfl) | (obtain ⟨_, _, rfl, _⟩ := h; rfl) | (obtain ⟨_, rfl, _⟩ := h; rfl)) ⟨_, fun cdv A outer s H E hr => (@a0c _ _ _ _ _ (@a0D _ _ _ _ 2 _ _ a0g a3j.nd (by rfl) (by walk_at "2") (by rfl) (by walk_at "4")) (@a0c _ _ _ _ _ (@s_if _ _ _ _ _ _ _ _ (@a1X _ _ _ _ _ _ _ _ b1v (@hv _ 1 _ _ (by rfl) (by walk_at "3") (by decide) (by decide)) (@a0B _ _ _ _ _ _ _ _ _ a0E Z.b_len PySem.boot_len (@a0a _ _ _ _ _ (@hv _ 0 _ _ (by rfl) (by walk_at "3") (by decide) (by decide)) a0f (by rfl)) (by rfl) (by decide) (by decide) (by rfl) (by rfl)) (@a1C _ _ (by decide) (by decide))) (@a0h _ _ _ (@a0D _ _ _ _ 2 _ _ (@h_ix _ _ _ _ _ _ (@hv _ 0 _ _ (by rfl) (by walk_at "3") (by decide) (by decide)) (@hv _ 1 _ _ (by rfl) (by walk_at "3") (by decide) (by decide)) (by intro _ _; rfl)) a3j.nd (by rfl) (by walk_at "2") (by rfl) (by walk_at "4"))) a2y) (@a0c _ _ _ _ _ (@s_if _ _ _ _ _ _ _ _ (@a1X _ _ _ _ _ _ _ _ b7i (@hv _ 2 _ _ (by rfl) (by walk_at "3") (by decide) (by decide)) (@a0i _ _ _ _ _ _ _ _ b1s a0g a0g) (@a1C _ _ (by decide) (by decide))) (@a0h _ _ _ (@a1a _ _ _ _ (@a5F _ _ _ _ (@a0a _ _ _ _ _ (@a0i _ _ _ _ _ _ _ _ a1E (@hv _ 2 _ _ (by rfl) (by walk_at "3") (by decide) (by decide)) (@a0i _ _ _ _ _ _ _ _ b1s a0g a0g)) (@a0a _ _ _ _ _ a0g a0f (by rfl)) (by rfl))))) a2y) (@a0h _ _ _ (@a1a _ _ _ _ (@a5F _ _ _ _ (@a0a _ _ _ _ _ (@a0i _ _ _ _ _ _ _ _ a2S (@a0i _ _ _ _ _ _ _ _ a0r (@hv _ 2 _ _ (by rfl) (by walk_at "3") (by decide) (by decide)) (@a0i _ _ _ _ _ _ _ _ a1d a0g (@hv _ 1 _ _ (by rfl) (by walk_at "3") (by decide) (by decide)))) a0g) (@a0a _ _ _ _ _ a0g a0f (by rfl)) (by rfl)))))))), fun ts M Q h => ?_⟩
 unfold a2k at h
 split at h
 ·rename_i s k
  obtain ⟨ns, rfl, h0, h1, h⟩ := h
  walk_at "rd"
  refine ite2 (fun c => ?_) (fun c => ?_)
  ·rw [b3L ns k h0 c]
   refine ⟨⟨by decide, by decide, by decide⟩, ite2 (fun _ => ⟨⟨by decide, by decide, by decide⟩, by decide, fun p hp => a0j (h _ _ _ hp)⟩) (fun _ => ⟨.inl ⟨by decide, by decide⟩, by decide, by decide, fun p hp => a0j (h _ _ _ hp)⟩)⟩
  ·refine ⟨⟨by decide, by decide, by decide⟩, ite2 (fun _ => ⟨⟨by decide, by decide, by decide⟩, by decide, fun p hp => a0j (h _ _ _ hp)⟩) (fun _ => ⟨.inl ⟨by decide, by decide⟩, by decide, by decide, fun p hp => a0j (h _ _ _ hp)⟩)⟩
 ·exact h.elim
theorem b2u {x m : Int} (h0 : 0 < m) (h1 : m < 2 ^ 100) : b0B x m := by
 refine ⟨h0, ?_⟩
 have : m.natAbs.log2 < 100 := (Nat.log2_lt (by lia)).mpr (by lia)
 lia
theorem a9Q {x y k : Int} (hk : 0 < k) (hk' : k ≤ 2 ^ 64) : CMul (x % k) y := by
 have h1 := Int.emod_nonneg x (Int.ne_of_gt hk)
 have h2 := Int.emod_lt_of_pos x hk
 exact .inl ⟨by lia, by lia⟩
noncomputable def a1W : Sp3 := fun ts M Q => match ts with
 | [.adr p, .int m] => ∃ s f, M p = some (.lst [.int s, .int f]) ∧ 0 < m ∧ m < 2 ^ 60 ∧ ∀ c s' f', 0 ≤ c → c < m → Q (.int c) (updM M p (.lst [.int s', .int f']))
 | _ => False
theorem a7m {P : Program} {w : World} {K : PySem.W.Frag} {mg : Str → Option Value} {base : Heap} {f : Addr} {fd : FuncData} {n : Nat}  (F : Fun K "_law_take" "_law_take" a1M f fd) (hm : mg "_law_take" = some (.ref f)) (hb : a0Y K fd ["state", "many"] []) (Z : Zs K mg)  : Df P w K mg base (n + 1) "_law_take" ["state", "many"] a1W := by
 refine F.dfn hm hb a2M (by intro ts M Q h; unfold a1W at h; first | (split at h <;> first | rfl | exact h.elim) | (obtain ⟨_, _, _, _, _, rfl, _⟩ := h; rfl) | (obtain ⟨_, _, _, _, rfl, _⟩ := h; rfl) | (obtain ⟨_, _, _, rfl, _⟩ := h; rfl) | (obtain ⟨_, _, rfl, _⟩ := h; rfl) | (obtain ⟨_, rfl, _⟩ := h; rfl)) ⟨_, fun cdv A outer s H E hr => (@a0c _ _ _ _ _ (@s_if _ _ _ _ _ _ _ _ (@HW.ht _ _ _ (@b5X _ _ _ _ _ _ _ (@a1X _ _ _ _ _ _ _ _ (@a5e _ hr.units) (@h_ix _ _ _ _ _ _ (@hv _ 0 _ _ (by rfl) (by walk_at "3") (by decide) (by decide)) a0g (by intro _ _; rfl)) a0g (@a1C _ _ (by decide) (by decide))) (@b3O _ _ _ _ (@a1X _ _ _ _ _ _ _ _ a5O (@h_ix _ _ _ _ _ _ (@hv _ 0 _ _ (by rfl) (by walk_at "3") (by decide) (by decide)) a0g (by intro _ _; rfl)) a0g (@a1C _ _ (by decide) (by decide)))))) (@a0c _ _ _ _ _ (@a0D _ _ _ _ 2 _ _ (@a0i _ _ _ _ _ _ _ _ a2S (@h_ix _ _ _ _ _ _ (@hv _ 0 _ _ (by rfl) (by walk_at "3") (by decide) (by decide)) a0g (by intro _ _; rfl)) (@hv _ 1 _ _ (by rfl) (by walk_at "3") (by decide) (by decide))) a2M.nd (by rfl) (by walk_at "2") (by rfl) (by walk_at "4")) (@a0c _ _ _ _ _ (@a4W _ _ _ _ _ _ (@a0i _ _ _ _ _ _ _ _ a3Z (@h_ix _ _ _ _ _ _ (@hv _ 0 _ _ (by rfl) (by walk_at "3") (by decide) (by decide)) a0g (by intro _ _; rfl)) (@hv _ 1 _ _ (by rfl) (by walk_at "3") (by decide) (by decide))) (@a5G _ _ _ _ _ _ (@hv _ 0 _ _ (by rfl) (by walk_at "3") (by decide) (by decide)) a0g (by intro _; rfl)) (by rfl) (by rfl) (by rfl)) (@a0h _ _ _ (@a1a _ _ _ _ (@hv _ 2 _ _ (by rfl) (by walk_at "3") (by decide) (by decide)))))) a2y) (@a0c _ _ _ _ _ (@a4W _ _ _ _ _ _ a0g (@a5G _ _ _ _ _ _ (@hv _ 0 _ _ (by rfl) (by walk_at "3") (by decide) (by decide)) a0g (by intro _; rfl)) (by rfl) (by rfl) (by rfl)) (@a0c _ _ _ _ _ (@a4W _ _ _ _ _ _ (@a0i _ _ _ _ _ _ _ _ a2S (@a0i _ _ _ _ _ _ _ _ a0r (@a0i _ _ _ _ _ _ _ _ a1d (@h_ix _ _ _ _ _ _ (@hv _ 0 _ _ (by rfl) (by walk_at "3") (by decide) (by decide)) a0g (by intro _ _; rfl)) a0g) a0g) a0g) (@a5G _ _ _ _ _ _ (@hv _ 0 _ _ (by rfl) (by walk_at "3") (by decide) (by decide)) a0g (by intro _; rfl)) (by rfl) (by rfl) (by rfl)) (@a0c _ _ _ _ _ (@a0D _ _ _ _ 3 _ _ (@a0i _ _ _ _ _ _ _ _ a2S (@a0i _ _ _ _ _ _ _ _ a0r (@a0i _ _ _ _ _ _ _ _ a1d (@h_ix _ _ _ _ _ _ (@hv _ 0 _ _ (by rfl) (by walk_at "3") (by decide) (by decide)) a0g (by intro _ _; rfl)) (@h_ix _ _ _ _ _ _ (@hv _ 0 _ _ (by rfl) (by walk_at "3") (by decide) (by decide)) a0g (by intro _ _; rfl))) (@a0i _ _ _ _ _ _ _ _ a1d a0g (@h_ix _ _ _ _ _ _ (@hv _ 0 _ _ (by rfl) (by walk_at "3") (by decide) (by decide)) a0g (by intro _ _; rfl)))) a0g) a2M.nd (by rfl) (by walk_at "2") (by rfl) (by walk_at "4")) (@a0c _ _ _ _ _ (@a0D _ _ _ _ 3 _ _ (@a0i _ _ _ _ _ _ _ _ a2S (@a0i _ _ _ _ _ _ _ _ a0r (@a0i _ _ _ _ _ _ _ _ a1d (@hv _ 3 _ _ (by rfl) (by walk_at "3") (by decide) (by decide)) (@hv _ 3 _ _ (by rfl) (by walk_at "3") (by decide) (by decide))) (@a0i _ _ _ _ _ _ _ _ a1d a0g (@hv _ 3 _ _ (by rfl) (by walk_at "3") (by decide) (by decide)))) a0g) a2M.nd (by rfl) (by walk_at "2") (by rfl) (by walk_at "4")) (@a0h _ _ _ (@a1a _ _ _ _ (@a0i _ _ _ _ _ _ _ _ a2S (@a0i _ _ _ _ _ _ _ _ a3Z (@hv _ 3 _ _ (by rfl) (by walk_at "3") (by decide) (by decide)) a0g) (@hv _ 1 _ _ (by rfl) (by walk_at "3") (by decide) (by decide)))))))))), fun ts M Q h => ?_⟩
 unfold a1W at h
 split at h
 ·rename_i p m
  obtain ⟨s, f, hM, h0, h1, h⟩ := h
  refine a0e fun K1 hK1 => ?_
  have hk : K1 [some (.adr p), some (.int m), none, none] M := by
   rw [hK1]
   clear hK1
   walk_at "rd"
   simp only [hM]
   walk_at "rd"
   have i1 : ixN (0 + 1 + 1) 1 = some 1 := by decide
   simp only [i1]
   exact ⟨.inr ⟨by decide, by decide⟩, by decide, a9Q (by decide) (by decide), .inl ⟨by decide, by decide⟩, by decide, a9Q (by decide) (by decide), .inl ⟨by decide, by decide⟩, by decide, b2u (by decide) (by decide), h0,
    a0j (h _ _ _ (Int.emod_nonneg _ (Int.ne_of_gt h0)) (Int.emod_lt_of_pos _ h0))⟩
  walk_at "rd"
  simp only [hM]
  walk_at "rd"
  have i0 : ixN 2 0 = some 0 := by decide
  exact ite2 (fun c => ite2 (fun c2 => ⟨h0, b2u h0 (by lia), a0j (h _ _ _ (Int.emod_nonneg _ (Int.ne_of_gt h0)) (Int.emod_lt_of_pos _ h0))⟩) (fun c2 => hk)) (fun c => hk)
 ·exact h.elim
noncomputable def a1S : Sp3 := fun ts M Q => match ts with
 | [.adr p, .int n] => ∃ s f, M p = some (.lst [.int s, .int f]) ∧ 2 ≤ n ∧ n ≤ 6 ∧ ∀ l s' f', a4v n l → Q (.int l) (updM M p (.lst [.int s', .int f']))
 | _ => False
theorem a5A {P : Program} {w : World} {K : PySem.W.Frag} {mg : Str → Option Value} {base : Heap} {f : Addr} {fd : FuncData} {n : Nat}  (F : Fun K "_law_letter" "_law_letter" a1i f fd) (hm : mg "_law_letter" = some (.ref f)) (hb : a0Y K fd ["state", "strands"] []) (Z : Zs K mg) (D__law_take : Df P w K mg base n "_law_take" ["state", "many"] a1W) : Df P w K mg base (n + 1) "_law_letter" ["state", "strands"] a1S := by
 refine F.dfn hm hb a3T (by intro ts M Q h; unfold a1S at h; first | (split at h <;> first | rfl | exact h.elim) | (obtain ⟨_, _, _, _, _, rfl, _⟩ := h; rfl) | (obtain ⟨_, _, _, _, rfl, _⟩ := h; rfl) | (obtain ⟨_, _, _, rfl, _⟩ := h; rfl) | (obtain ⟨_, _, rfl, _⟩ := h; rfl) | (obtain ⟨_, rfl, _⟩ := h; rfl)) ⟨_, fun cdv A outer s H E hr => (@a0c _ _ _ _ _ (@a0D _ _ _ _ 2 _ _ (@a0m _ _ _ _ _ _ _ _ _ _ D__law_take hr (@a0a _ _ _ _ _ (@hv _ 0 _ _ (by rfl) (by walk_at "3") (by decide) (by decide)) (@a0a _ _ _ _ _ (@a0i _ _ _ _ _ _ _ _ a1d a0g (@a0i _ _ _ _ _ _ _ _ a1E (@hv _ 1 _ _ (by rfl) (by walk_at "3") (by decide) (by decide)) a0g)) a0f (by rfl)) (by rfl)) (by rfl) (by decide) (by rfl) (by rfl)) a3T.nd (by rfl) (by walk_at "2") (by rfl) (by walk_at "4")) (@a0h _ _ _ (@a1a _ _ _ _ (@a0i _ _ _ _ _ _ _ _ a1d (@h_ix _ _ _ _ _ _ (@a5F _ _ _ _ (@a0a _ _ _ _ _ a0g (@a0a _ _ _ _ _ (@h_un _ _ _ _ _ _ a2w a0g) a0f (by rfl)) (by rfl))) (@a0i _ _ _ _ _ _ _ _ a2S (@hv _ 2 _ _ (by rfl) (by walk_at "3") (by decide) (by decide)) a0g) (by intro _ _; rfl)) (@a0i _ _ _ _ _ _ _ _ a0r a0g (@a0i _ _ _ _ _ _ _ _ a3Z (@hv _ 2 _ _ (by rfl) (by walk_at "3") (by decide) (by decide)) a0g)))))), fun ts M Q h => ?_⟩
 unfold a1S at h
 split at h
 ·rename_i p n
  obtain ⟨s, f, hM, h0, h1, h⟩ := h
  walk_at "rd"
  refine ⟨.inl ⟨by lia, by lia⟩, s, f, hM, by lia, by lia, fun c s1 f1 c0 c1 => ?_⟩
  walk_at "rd"
  refine ⟨by decide, fun p1 hp1 => ?_⟩
  have n1 : p ≠ p1 := fun z => by rw [← z, a0d] at hp1; cases hp1
  have e1 : ∃ b : Int, (b = 1 ∨ b = -1) ∧ atI [T.int 1, T.int (-1)] (c % 2) = some (.int b) := by
   rcases (show c % 2 = 0 ∨ c % 2 = 1 by lia) with e | e
   ·rw [e]; exact ⟨1, .inl rfl, rfl⟩
   ·rw [e]; exact ⟨-1, .inr rfl, rfl⟩
  obtain ⟨b, hb, e1⟩ := e1
  simp only [e1]
  have hl : a4v n (b * (1 + c / 2)) := by
   unfold a4v
   rcases hb with rfl | rfl
   ·lia
   ·lia
  exact ⟨by decide, ⟨by decide, by decide⟩, .inl ⟨by lia, by lia⟩, a3x (h _ _ _ hl) (Sub.new hp1)⟩
 ·exact h.elim
noncomputable def a2l : Sp3 := fun ts M Q => match ts with
 | [.adr p, .int most, .int longest] => ∃ s f, M p = some (.lst [.int s, .int f]) ∧ 1 ≤ most ∧ most ≤ 6 ∧ 0 ≤ longest ∧ longest ≤ 100 ∧ ∀ (n : Int) (w : List Int) s' f', 1 ≤ n → n ≤ most → (w.length : Int) ≤ longest → a2G n w → Q (.tup [.int n, .tup (w.map .int)]) (updM M p (.lst [.int s', .int f']))
 | _ => False
theorem a6z {P : Program} {w : World} {K : PySem.W.Frag} {mg : Str → Option Value} {base : Heap} {f : Addr} {fd : FuncData} {n : Nat}  (F : Fun K "_law_plait" "_law_plait" a1A f fd) (hm : mg "_law_plait" = some (.ref f)) (hb : a0Y K fd ["state", "most", "longest"] []) (Z : Zs K mg) (D__law_take : Df P w K mg base n "_law_take" ["state", "many"] a1W) (D__law_letter : Df P w K mg base n "_law_letter" ["state", "strands"] a1S) : Df P w K mg base (n + 1) "_law_plait" ["state", "most", "longest"] a2l := by
 refine F.dfn hm hb a2o (by intro ts M Q h; unfold a2l at h; first | (split at h <;> first | rfl | exact h.elim) | (obtain ⟨_, _, _, _, _, rfl, _⟩ := h; rfl) | (obtain ⟨_, _, _, _, rfl, _⟩ := h; rfl) | (obtain ⟨_, _, _, rfl, _⟩ := h; rfl) | (obtain ⟨_, _, rfl, _⟩ := h; rfl) | (obtain ⟨_, rfl, _⟩ := h; rfl)) ⟨_, fun cdv A outer s H E hr => (@a0c _ _ _ _ _ (@a0D _ _ _ _ 3 _ _ (@a0i _ _ _ _ _ _ _ _ a0r a0g (@a0i _ _ _ _ _ _ _ _ a3Z (@a0i _ _ _ _ _ _ _ _ a2S (@a0i _ _ _ _ _ _ _ _ a0r (@a0m _ _ _ _ _ _ _ _ _ _ D__law_take hr (@a0a _ _ _ _ _ (@hv _ 0 _ _ (by rfl) (by walk_at "3") (by decide) (by decide)) (@a0a _ _ _ _ _ (@a0i _ _ _ _ _ _ _ _ a1d a0g (@hv _ 1 _ _ (by rfl) (by walk_at "3") (by decide) (by decide))) a0f (by rfl)) (by rfl)) (by rfl) (by decide) (by rfl) (by rfl)) a0g) (@a0i _ _ _ _ _ _ _ _ a1d a0g (@hv _ 1 _ _ (by rfl) (by walk_at "3") (by decide) (by decide)))) a0g)) a2o.nd (by rfl) (by walk_at "2") (by rfl) (by walk_at "4")) (@a0c _ _ _ _ _ (@a0D _ _ _ _ 4 _ _ (@a5F _ _ _ _ a0f) a2o.nd (by rfl) (by walk_at "2") (by rfl) (by walk_at "4")) (@a0c _ _ _ _ _ (@a2H _ _ _ _ _ _ _ _ PassesOwn.never rfl (@a1U _ _ _ _ _ _ Z.b_range (@a0a _ _ _ _ _ (@a0i _ _ _ _ _ _ _ _ a1d (@a0m _ _ _ _ _ _ _ _ _ _ D__law_take hr (@a0a _ _ _ _ _ (@hv _ 0 _ _ (by rfl) (by walk_at "3") (by decide) (by decide)) (@a0a _ _ _ _ _ (@a0i _ _ _ _ _ _ _ _ a0r (@hv _ 2 _ _ (by rfl) (by walk_at "3") (by decide) (by decide)) a0g) a0f (by rfl)) (by rfl)) (by rfl) (by decide) (by rfl) (by rfl)) (@a3q _ _ _ _ _ _ _ _ _ a5u Z.b_int PyProof.Rows.boot_int (@a0a _ _ _ _ _ (@b0u _ _ _ _ _ _ _ _ a5O (@hv _ 3 _ _ (by rfl) (by walk_at "3") (by decide) (by decide)) a0g (@a1C _ _ (by decide) (by decide))) a0f (by rfl)) (by rfl) (by decide) (by decide) (by rfl) (by rfl))) a0f (by rfl)) (by rfl) (by rfl)) (@a0J _ _ 5 _ a2o.nd (by rfl) (by walk_at "2") (by walk_at "4")) (@a0c _ _ _ _ _ (@a2U _ _ _ _ (@a2v _ _ _ _ _ _ _ _ (@hv _ 4 _ _ (by rfl) (by walk_at "3") (by decide) (by decide)) (@a0a _ _ _ _ _ (@a0m _ _ _ _ _ _ _ _ _ _ D__law_letter hr (@a0a _ _ _ _ _ (@hv _ 0 _ _ (by rfl) (by walk_at "3") (by decide) (by decide)) (@a0a _ _ _ _ _ (@hv _ 3 _ _ (by rfl) (by walk_at "3") (by decide) (by decide)) a0f (by rfl)) (by rfl)) (by rfl) (by decide) (by rfl) (by rfl)) a0f (by rfl)) (by rfl) (by rfl) (by rfl) (by rfl) (by rfl)) (by rfl)) (@a0h _ _ _ (@s_if _ _ _ _ _ _ _ _ (@HW.ht _ _ _ (@b5X _ _ _ _ _ _ _ (@a1X _ _ _ _ _ _ _ _ (@a5e _ hr.units) (@a0m _ _ _ _ _ _ _ _ _ _ D__law_take hr (@a0a _ _ _ _ _ (@hv _ 0 _ _ (by rfl) (by walk_at "3") (by decide) (by decide)) (@a0a _ _ _ _ _ a0g a0f (by rfl)) (by rfl)) (by rfl) (by decide) (by rfl) (by rfl)) a0g (@a1C _ _ (by decide) (by decide))) (@b3O _ _ _ _ (@a1X _ _ _ _ _ _ _ _ a5O (@a0B _ _ _ _ _ _ _ _ _ a0E Z.b_len PySem.boot_len (@a0a _ _ _ _ _ (@hv _ 4 _ _ (by rfl) (by walk_at "3") (by decide) (by decide)) a0f (by rfl)) (by rfl) (by decide) (by decide) (by rfl) (by rfl)) a0g (@a1C _ _ (by decide) (by decide)))))) (@a0h _ _ _ (@a4W _ _ _ _ _ _ (@h_ix _ _ _ _ _ _ (@a5F _ _ _ _ (@a0a _ _ _ _ _ (@h_ix _ _ _ _ _ _ (@hv _ 4 _ _ (by rfl) (by walk_at "3") (by decide) (by decide)) (@h_un _ _ _ _ _ _ a2w a0g) (by intro _ _; rfl)) (@a0a _ _ _ _ _ (@a0i _ _ _ _ _ _ _ _ a1E a0g (@h_ix _ _ _ _ _ _ (@hv _ 4 _ _ (by rfl) (by walk_at "3") (by decide) (by decide)) (@h_un _ _ _ _ _ _ a2w a0g) (by intro _ _; rfl))) a0f (by rfl)) (by rfl))) (@a0m _ _ _ _ _ _ _ _ _ _ D__law_take hr (@a0a _ _ _ _ _ (@hv _ 0 _ _ (by rfl) (by walk_at "3") (by decide) (by decide)) (@a0a _ _ _ _ _ a0g a0f (by rfl)) (by rfl)) (by rfl) (by decide) (by rfl) (by rfl)) (by intro _ _; rfl)) (@a5G _ _ _ _ _ _ (@hv _ 4 _ _ (by rfl) (by walk_at "3") (by decide) (by decide)) (@h_un _ _ _ _ _ _ a2w a0g) (by intro _; rfl)) (by rfl) (by rfl) (by rfl))) a2y))) (by intro _; rfl)) (@a0h _ _ _ (@a1a _ _ _ _ (@a3a _ _ _ _ _ (@a0a _ _ _ _ _ (@hv _ 3 _ _ (by rfl) (by walk_at "3") (by decide) (by decide)) (@a0a _ _ _ _ _ (@a3q _ _ _ _ _ _ _ _ _ a4e Z.b_tuple PyProof.Rows.boot_tuple (@a0a _ _ _ _ _ (@hv _ 4 _ _ (by rfl) (by walk_at "3") (by decide) (by decide)) a0f (by rfl)) (by rfl) (by decide) (by decide) (by rfl) (by rfl)) a0f (by rfl)) (by rfl)))))))), fun ts M Q h => ?_⟩
 unfold a2l at h
 split at h
 ·rename_i p most longest
  obtain ⟨s, f, hM, hm1, hm2, hl0, hl1, h⟩ := h
  refine b2Q fun K2 hK2 => ?_
  walk_at "rd"
  refine ⟨.inl ⟨by decide, by decide⟩, s, f, hM, by lia, by lia, fun c s1 f1 c0 c1 => ?_⟩
  refine ⟨.inl ⟨by decide, by decide⟩, by lia, ⟨by decide, by decide⟩, fun r hr => ?_⟩
  have hn : 1 ≤ 1 + (c + 1) % (12 * most) / 12 ∧ 1 + (c + 1) % (12 * most) / 12 ≤ most := by
   have e1 := Int.emod_nonneg (c + 1) (show 12 * most ≠ 0 by lia)
   have e2 := Int.emod_lt_of_pos (c + 1) (show 0 < 12 * most by lia)
   lia
  generalize 1 + (c + 1) % (12 * most) / 12 = n at hn ⊢
  have nr : p ≠ r := fun z => by rw [← z, a0d] at hr; cases hr
  have hrn : ∀ x, updM M p x r = none := fun x => by
   rw [a0o nr.symm] at hr ⊢; exact hr
  rw [hK2]
  refine a0e fun K3 hK3 => ?_
  refine a0K fun B hB => ?_
  walk_at "rd"
  refine ⟨s1, f1, by rw [a0o nr, a0d], by lia, by lia, fun c2 s2 f2 c20 c21 => ?_⟩
  have hb : ∃ k : Int, (if 1 < n then (1 : Int) else 0) = k ∧ ((k = 0) ∨ (k = 1 ∧ 2 ≤ n)) := by
   by_cases c : 1 < n
   ·exact ⟨1, if_pos c, .inr ⟨rfl, by lia⟩⟩
   ·exact ⟨0, if_neg c, .inl rfl⟩
  obtain ⟨k, ek, hb⟩ := hb
  have hS0 : Sub (updM M p (.lst [.int s2, .int f2])) (updM (updM (updM M p (MO.lst [T.int s1, T.int f1])) r (MO.lst [])) p (MO.lst [T.int s2, T.int f2])) := (Sub.new hr).set
  have hr0 : updM (updM (updM M p (MO.lst [T.int s1, T.int f1])) r (MO.lst [])) p (MO.lst [T.int s2, T.int f2]) r = some (.lst []) := by rw [a0o nr.symm, a0d]
  generalize updM (updM (updM M p (MO.lst [T.int s1, T.int f1])) r (MO.lst [])) p (MO.lst [T.int s2, T.int f2]) = M0 at hS0 hr0 ⊢
  walk_at "rd"
  rw [ek]
  have hck : 0 ≤ c2 * k ∧ c2 * k ≤ longest ∧ (0 < c2 * k → 2 ≤ n) := by
   rcases hb with rfl | ⟨rfl, h2⟩
   ·rw [Int.mul_zero]; lia
   ·rw [Int.mul_one]; lia
  have hcm : CMul c2 k := .inl ⟨by lia, by lia⟩
  generalize c2 * k = cnt at hck ⊢
  refine ⟨hcm, by lia, by lia, fun i ρ M' => ∃ a w s' f', ρ = [some (T.adr p), some (T.int most), some (T.int longest), some (T.int n), some (T.adr r), a] ∧ M' r = some (.lst (List.map T.int w)) ∧ Sub (updM M p (.lst [.int s', .int f'])) M' ∧ w.length = i ∧ a2G n w, ⟨none, [], s2, f2, rfl, hr0, hS0, rfl, a2G.nil⟩, fun _ _ _ _ => trivial, ?_, ?_⟩
  ·rintro i x ρ M' hx ⟨a, w, s', f', rfl, hw, hS, hwl, hok⟩
   obtain ⟨hi, rfl⟩ := a0P hx
   have hp' : M' p = some (.lst [.int s', .int f']) := hS _ _ a0d
   rw [hB]
   refine a0e fun K4 hK4 => ?_
   walk_at "rd"
   rw [hw]
   refine ⟨trivial, s', f', hp', by lia, by lia, fun l s3 f3 hl => ?_⟩
   simp only [a0o nr.symm, hw]
   have e1 : List.map T.int w ++ [T.int l] = (w ++ [l]).map T.int := by rw [List.map_append]; rfl
   rw [e1]
   have hS1 : Sub (updM M p (.lst [.int s3, .int f3])) (updM (updM M' p (.lst [.int s3, .int f3])) r (.lst ((w ++ [l]).map T.int))) := hS.set.updF (hrn _)
   have hw1 : updM (updM M' p (.lst [.int s3, .int f3])) r (.lst ((w ++ [l]).map T.int)) r = some (.lst ((w ++ [l]).map T.int)) := a0d
   generalize updM (updM M' p (.lst [.int s3, .int f3])) r (.lst ((w ++ [l]).map T.int)) = M1 at hS1 hw1 ⊢
   have hp1 : M1 p = some (.lst [.int s3, .int f3]) := hS1 _ _ a0d
   refine ⟨by rw [List.length_map]; exact a0C (by lia), ?_⟩
   have hok1 : a2G n (w ++ [l]) := hok.append fun x hx => by rw [List.mem_singleton.mp hx]; exact hl
   rw [hK4]
   walk_at "rd"
   refine ⟨s3, f3, hp1, by decide, by decide, fun c4 s4 f4 c40 c41 => ?_⟩
   have hr2 : updM M1 p (.lst [.int s4, .int f4]) r = some (.lst ((w ++ [l]).map T.int)) := by rw [a0o nr.symm, hw1]
   have hS2 : Sub (updM M p (.lst [.int s4, .int f4])) (updM M1 p (.lst [.int s4, .int f4])) := hS1.set
   generalize updM M1 p (.lst [.int s4, .int f4]) = M2 at hr2 hS2 ⊢
   have hp2 : M2 p = some (.lst [.int s4, .int f4]) := hS2 _ _ a0d
   have hlen : (w ++ [l]).length = i + 1 := by rw [List.length_append, hwl]; rfl
   refine ⟨rfl, by rw [a2P]; lia, ite2 (fun hc => ?_) (fun hc => ⟨_, _, s4, f4, rfl, hr2, hS2, hlen, hok1⟩)⟩
   simp only [hr2]
   refine ite2 (fun hc2 => ?_) (fun hc2 => ⟨_, _, s4, f4, rfl, rfl, hS2, hlen, hok1⟩)
   rw [List.length_map, hlen] at hc2
   obtain ⟨w0, y, rfl⟩ : ∃ w0 y, w = w0 ++ [y] := by
    rcases List.eq_nil_or_concat w with e | ⟨w0, y, e⟩
    ·rw [e] at hwl; simp at hwl; lia
    ·exact ⟨w0, y, by rw [e, List.concat_eq_append]⟩
   have e2 : List.map T.int (w0 ++ [y] ++ [l]) = List.map T.int w0 ++ [T.int y, T.int l] := by simp
   have a2 : atI (List.map T.int (w0 ++ [y] ++ [l])) (-2) = some (T.int y) := by rw [e2]; exact b2C _ _ _
   have hy : a4v n y := hok y (by simp)
   simp only [a2]
   refine ⟨by decide, fun p3 hp3 => ?_⟩
   have q1 : p ≠ p3 := fun z => by rw [← z, hp2] at hp3; cases hp3
   have q2 : r ≠ p3 := fun z => by rw [← z, hr2] at hp3; cases hp3
   refine ⟨s4, f4, by rw [a0o q1, hp2], by decide, by decide, fun c5 s5 f5 c50 c51 => ?_⟩
   have e5 : ∃ b : Int, a4v n b ∧ atI [T.int y, T.int (0 - y)] c5 = some (.int b) := by
    rcases (show c5 = 0 ∨ c5 = 1 by lia) with rfl | rfl
    ·exact ⟨y, hy, rfl⟩
    ·exact ⟨0 - y, by unfold a4v at hy ⊢; lia, rfl⟩
   obtain ⟨b, hbL, e5⟩ := e5
   simp only [a0o q1.symm, a0d, e5, a0o nr.symm, a0o q2, hr2]
   have ix : ixN (List.map T.int (w0 ++ [y] ++ [l])).length (-1) = some (w0.length + 1) := by
    unfold ixN
    rw [List.length_map]
    simp only [List.length_append, List.length_singleton]
    rw [if_neg (by decide), if_pos (by lia)]
    congr 1
    lia
   rw [ix]
   have e6 : (List.map T.int (w0 ++ [y] ++ [l])).set (w0.length + 1) (T.int b) = List.map T.int (w0 ++ [y] ++ [b]) := by
    rw [← List.map_set]
    congr 1
    rw [List.set_append_right _ _ (by simp)]
    simp
   dsimp only
   rw [e6]
   refine ⟨_, w0 ++ [y] ++ [b], s5, f5, rfl, rfl, ?_, by rw [List.length_append, hwl]; rfl, hok.append fun x hx => by rw [List.mem_singleton.mp hx]; exact hbL⟩
   exact ((hS2.newr hp3).set).updF (hrn _)
  ·rintro ρ M' ⟨a, w, s', f', rfl, hw, hS, hwl, hok⟩
   rw [a0t] at hwl
   rw [hK3]
   walk_at "rd"
   simp only [hw]
   exact ⟨by decide, a3x (h n w s' f' hn.1 hn.2 (by lia) hok) hS⟩
 ·exact h.elim
noncomputable def a1D : Sp3 := fun ts M Q => match ts with
 | [.int _] => Q (.bl true) M
 | _ => False
theorem a6w {P : Program} {w : World} {K : PySem.W.Frag} {mg : Str → Option Value} {base : Heap} {f : Addr} {fd : FuncData} {n : Nat}  (F : Fun K "_law_whole" "_law_whole" a1x f fd) (hm : mg "_law_whole" = some (.ref f)) (hb : a0Y K fd ["found"] []) (Z : Zs K mg)  : Df P w K mg base (n + 1) "_law_whole" ["found"] a1D := by
 refine F.dfn hm hb a6m (by intro ts M Q h; unfold a1D at h; first | (split at h <;> first | rfl | exact h.elim) | (obtain ⟨_, _, _, _, _, rfl, _⟩ := h; rfl) | (obtain ⟨_, _, _, _, rfl, _⟩ := h; rfl) | (obtain ⟨_, _, _, rfl, _⟩ := h; rfl) | (obtain ⟨_, _, rfl, _⟩ := h; rfl) | (obtain ⟨_, rfl, _⟩ := h; rfl)) ⟨_, fun cdv A outer s H E hr => (@a0h _ _ _ (@a1a _ _ _ _ (@b8E _ _ _ _ _ _ _ (@b3A _ _ _ _ _ _ _ .int (@hv _ 0 _ _ (by rfl) (by walk_at "3") (by decide) (by decide)) Z.b_isinstance Z.b_int PyProof.Rows.boot_int (by intro z; cases z) (by rfl) (by rfl) (by decide) (by decide) (by rfl) (by rfl) (by rfl)) (@b8C _ _ _ _ _ (@b7A _ _ _ _ (@b3A _ _ _ _ _ _ _ .bool (@hv _ 0 _ _ (by rfl) (by walk_at "3") (by decide) (by decide)) Z.b_isinstance Z.b_bool PyProof.Rows.boot_bool (by intro z; cases z) (by rfl) (by rfl) (by decide) (by decide) (by rfl) (by rfl) (by rfl))))))), fun ts M Q h => ?_⟩
 unfold a1D at h
 split at h
 ·walk_at "rd"
  exact a0j h
 ·exact h.elim
noncomputable def Cl (m : Po) : Prop := (m.map Prod.fst).Nodup ∧ ∀ x ∈ m, x.2 ≠ 0
noncomputable def delP (k : Int) (m : Po) : Po := m.filter fun x => decide (x.1 ≠ k)
theorem b2f (k : Int) (m : Po) : b2g (dkI m) (.inl k) = dkI (delP k m) := by
 unfold b2g dkI delP
 rw [List.filter_map]
 congr 1
 refine List.filter_congr fun x _ => ?_
 show decide ((Sum.inl x.1 : Key) ≠ .inl k) = decide (x.1 ≠ k)
 exact decide_eq_decide.mpr ⟨fun h z => h (by rw [z]), fun h z => h (Sum.inl.inj z)⟩
theorem b2p (k : Int) : ∀ (m : Po) (j : Int), co (delP k m) j = if j = k then 0 else co m j
 | [], j => by show (0 : Int) = if j = k then 0 else 0; split <;> rfl
 | x :: m, j => by
   have ih := b2p k m j
   show co (List.filter _ (x :: m)) j = if j = k then 0 else (if x.1 = j then x.2 else 0) + co m j
   rw [List.filter_cons]
   by_cases c : x.1 = k
   ·rw [if_neg (by simpa using c)]
    refine Eq.trans ih ?_
    by_cases e : j = k
    ·rw [if_pos e, if_pos e]
    ·rw [if_neg e, if_neg e, if_neg (fun z => e (z.symm.trans c))]; lia
   ·rw [if_pos (by simpa using c)]
    show (if x.1 = j then x.2 else 0) + co (delP k m) j = _
    rw [ih]
    by_cases e : j = k
    ·rw [if_pos e, if_pos e, if_neg (fun z => c (z.trans e))]; rfl
    ·rw [if_neg e, if_neg e]
noncomputable def putC (k c : Int) (m : Po) : Po := if co m k + c = 0 then delP k m else setP k (co m k + c) m
theorem b2o {k c : Int} {m : Po} (h : Cl m) (j : Int) : co (putC k c m) j = co m j + if k = j then c else 0 := by
 unfold putC
 by_cases z : co m k + c = 0
 ·rw [if_pos z, b2p]
  by_cases e : j = k
  ·subst e; rw [if_pos rfl, if_pos rfl]; lia
  ·rw [if_neg e, if_neg (fun y => e y.symm)]; lia
 ·rw [if_neg z, a5q k _ h.1]
  by_cases e : j = k
  ·subst e; rw [if_pos rfl, if_pos rfl]
  ·rw [if_neg e, if_neg (fun y => e y.symm)]; lia
theorem b0R {k v : Int} (hv : v ≠ 0) : ∀ {m : Po}, (∀ x ∈ m, x.2 ≠ 0) → ∀ x ∈ setP k v m, x.2 ≠ 0
 | [], _, x, hx => by rw [List.mem_singleton.mp hx]; exact hv
 | y :: m, h, x, hx => by
   have hx : x ∈ (if y.1 = k then (k, v) :: m else y :: setP k v m) := hx
   split at hx
   ·rcases List.mem_cons.mp hx with e | e
    ·rw [e]; exact hv
    ·exact h x (.tail _ e)
   ·rcases List.mem_cons.mp hx with e | e
    ·rw [e]; exact h y (.head _)
    ·exact b0R hv (fun z hz => h z (.tail _ hz)) x e
theorem Cl.put {k c : Int} {m : Po} (h : Cl m) : Cl (putC k c m) := by
 unfold putC
 by_cases z : co m k + c = 0
 ·rw [if_pos z]
  exact ⟨(h.1.sublist ((List.filter_sublist).map _)), fun x hx => h.2 x (List.mem_filter.mp hx).1⟩
 ·rw [if_neg z]
  exact ⟨a3L h.1, b0R z h.2⟩
theorem a9j {k c : Int} {m : Po} {L : List Int} (hk : k ∈ L) (hs : ∀ x ∈ m, x.1 ∈ L) : ∀ x ∈ putC k c m, x.1 ∈ L := by
 unfold putC
 by_cases z : co m k + c = 0
 ·rw [if_pos z]; exact fun x hx => hs x (List.mem_filter.mp hx).1
 ·rw [if_neg z]; exact a6k hk hs
theorem a9K (k v : Int) : ∀ m : Po, delP k (setP k v m) = delP k m
 | [] => by
   show List.filter _ [(k, v)] = []
   rw [List.filter_cons, if_neg (by simp)]; rfl
 | x :: m => by
   show delP k (if x.1 = k then (k, v) :: m else x :: setP k v m) = delP k (x :: m)
   by_cases c : x.1 = k
   ·rw [if_pos c]
    unfold delP
    rw [List.filter_cons, if_neg (by simp), List.filter_cons, if_neg (by simpa using c)]
   ·rw [if_neg c]
    have ih := a9K k v m
    unfold delP at ih ⊢
    rw [List.filter_cons, if_pos (by simpa using c), List.filter_cons, if_pos (by simpa using c), ih]
theorem b2P (k v : Int) (m : Po) : k ∈ (setP k v m).map Prod.fst := by
 rw [a4n]
 split
 ·assumption
 ·exact List.mem_append.mpr (.inr (.head _))
noncomputable def a2z : Sp3 := fun ts M Q => match ts with
 | [.adr d, .int k, .int c] => ∃ m : Po, M d = some (.dk (dkI m)) ∧ Cl m ∧ m.length ≤ 200 ∧ Q .non (updM M d (.dk (dkI (putC k c m))))
 | _ => False
theorem a8y {P : Program} {w : World} {K : PySem.W.Frag} {mg : Str → Option Value} {base : Heap} {f : Addr} {fd : FuncData} {n : Nat}  (F : Fun K "_law_put" "_law_put" a2t f fd) (hm : mg "_law_put" = some (.ref f)) (hb : a0Y K fd ["found", "power", "count"] []) (Z : Zs K mg)  : Df P w K mg base (n + 1) "_law_put" ["found", "power", "count"] a2z := by
 refine F.dfn hm hb a8n (by intro ts M Q h; unfold a2z at h; first | (split at h <;> first | rfl | exact h.elim) | (obtain ⟨_, _, _, _, _, rfl, _⟩ := h; rfl) | (obtain ⟨_, _, _, _, rfl, _⟩ := h; rfl) | (obtain ⟨_, _, _, rfl, _⟩ := h; rfl) | (obtain ⟨_, _, rfl, _⟩ := h; rfl) | (obtain ⟨_, rfl, _⟩ := h; rfl)) ⟨_, fun cdv A outer s H E hr => (@a0c _ _ _ _ _ (@b1b _ _ _ _ _ _ _ _ _ hr.units (@a0i _ _ _ _ _ _ _ _ a0r (@b1X _ _ _ _ _ _ _ _ _ hr.units (@hv _ 0 _ _ (by rfl) (by walk_at "3") (by decide) (by decide)) (@hv _ 1 _ _ (by rfl) (by walk_at "3") (by decide) (by decide)) a0g (by rfl) (by rfl) (by rfl) (by rfl)) (@hv _ 2 _ _ (by rfl) (by walk_at "3") (by decide) (by decide))) (@hv _ 0 _ _ (by rfl) (by walk_at "3") (by decide) (by decide)) (@hv _ 1 _ _ (by rfl) (by walk_at "3") (by decide) (by decide)) (by rfl)) (@a0h _ _ _ (@s_if _ _ _ _ _ _ _ _ (@a1X _ _ _ _ _ _ _ _ (@a5e _ hr.units) (@b5D _ _ _ _ _ _ hr.units (@hv _ 0 _ _ (by rfl) (by walk_at "3") (by decide) (by decide)) (@hv _ 1 _ _ (by rfl) (by walk_at "3") (by decide) (by decide)) (by intro _ _; rfl)) a0g (@a1C _ _ (by decide) (by decide))) (@a0h _ _ _ (@a2U _ _ _ _ (@b7z _ _ _ _ _ _ _ (@hv _ 0 _ _ (by rfl) (by walk_at "3") (by decide) (by decide)) (@hv _ 1 _ _ (by rfl) (by walk_at "3") (by decide) (by decide)) (by rfl) (by rfl) (by rfl) (by rfl)) (by rfl))) a2y))), fun ts M Q h => ?_⟩
 unfold a2z at h
 split at h
 ·rename_i d k c
  obtain ⟨m, hd, hm, h200, h⟩ := h
  refine a0e fun K1 hK1 => ?_
  walk_at "rd"
  rw [hd]
  dsimp only
  refine ⟨trivial, .inl k, rfl, ?_⟩
  rw [a4L k hm.1]
  dsimp only
  refine ⟨.inl k, rfl, a0C (by rw [a4C]; lia), ?_⟩
  rw [a4N hm.1]
  have hn1 := a3L (k := k) (v := co m k + c) hm.1
  have hh1 := b2P k (co m k + c) m
  have hc1 := a5q k (co m k + c) hm.1 k
  rw [if_pos rfl] at hc1
  have ed := a9K k (co m k + c) m
  have ep : putC k c m = if co m k + c = 0 then delP k m else setP k (co m k + c) m := rfl
  rw [ep] at h
  have hM1 : (updM M d (MO.dk (dkI (setP k (co m k + c) m)))) d = some (.dk (dkI (setP k (co m k + c) m))) := a0d
  rw [hK1]; clear hK1
  walk_at "rd"
  refine ⟨.inl k, _, rfl, a1s hn1 hh1, ?_⟩
  rw [hc1]
  refine ⟨by rw [a2B], by rw [a2P]; decide, ?_⟩
  rw [a3D]
  by_cases z : co m k + c = 0
  ·rw [if_pos z] at h
   rw [if_pos (decide_eq_true z)]
   refine ⟨.inl k, _, rfl, a1s hn1 hh1, ?_⟩
   rw [b2f, ed]
   exact a0j h
  ·rw [if_neg z] at h
   rw [if_neg (by rw [decide_eq_true_eq]; exact z)]
   exact a0j h
 ·exact h.elim
theorem b5N : ∀ {p : Po}, (p.map Prod.fst).Nodup → ∀ {x : Int × Int}, x ∈ p → co p x.1 = x.2
 | y :: p, h, x, hx => by
   rw [List.map_cons, List.nodup_cons] at h
   show (if y.1 = x.1 then y.2 else 0) + co p x.1 = x.2
   rcases List.mem_cons.mp hx with e | e
   ·subst e
    rw [if_pos rfl, a3r fun z hz e => h.1 (by rw [← e]; exact List.mem_map.mpr ⟨z, hz, rfl⟩)]; lia
   ·rw [if_neg (fun z => h.1 (by rw [z]; exact List.mem_map.mpr ⟨x, e, rfl⟩)), b5N h.2 e]; lia
theorem b2s {p : Po} (h : Cl p) {x : Int × Int} (hx : x ∈ p) : valT (dkI p) (.inl x.1) = some (.int x.2) := by
 rw [a1s h.1 (List.mem_map.mpr ⟨x, hx, rfl⟩), b5N h.1 hx]
noncomputable def a2j : Sp3 := fun ts M Q => match ts with
 | [.adr a, .adr b] => ∃ (p q : Po) (L : List Int), M a = some (.fk (dkI p)) ∧ M b = some (.fk (dkI q)) ∧ Cl p ∧ Cl q ∧ L.length < 64 ∧ (∀ x ∈ p, ∀ y ∈ q, x.1 + y.1 ∈ L) ∧ (Sml p ∨ Sml q) ∧ p.length ≤ 100 ∧ q.length ≤ 100 ∧ ∀ (r : Addr) (m : Po) (M' : MH), M r = none → Sub M M' → M' r = some (.fk (dkI m)) → Cl m → (∀ x ∈ m, x.1 ∈ L) → (∀ k, co m k = co (rawM p q) k) → Q (.adr r) M'
 | _ => False
theorem b1e {p q : Po} {i : Nat} {x : Int × Int} (h : p[i]? = some x) (k : Int) : co (rawM (p.take (i + 1)) q) k = co (rawM (p.take i) q) k + co (q.map fun b => (x.1 + b.1, x.2 * b.2)) k := by
 rw [List.take_add_one, h]
 unfold rawM
 rw [List.flatMap_append, a0X]
 show _ + co ([x].flatMap fun a => q.map fun b => (a.1 + b.1, a.2 * b.2)) k = _
 rw [List.flatMap_cons, List.flatMap_nil, List.append_nil]
theorem a6x {P : Program} {w : World} {K : PySem.W.Frag} {mg : Str → Option Value} {base : Heap} {f : Addr} {fd : FuncData} {n : Nat}  (F : Fun K "_law_times" "_law_times" a1y f fd) (hm : mg "_law_times" = some (.ref f)) (hb : a0Y K fd ["one", "other"] []) (Z : Zs K mg) (D__law_put : Df P w K mg base n "_law_put" ["found", "power", "count"] a2z) : Df P w K mg base (n + 1) "_law_times" ["one", "other"] a2j := by
 refine F.dfn hm hb a2n (by intro ts M Q h; unfold a2j at h; first | (split at h <;> first | rfl | exact h.elim) | (obtain ⟨_, _, _, _, _, rfl, _⟩ := h; rfl) | (obtain ⟨_, _, _, _, rfl, _⟩ := h; rfl) | (obtain ⟨_, _, _, rfl, _⟩ := h; rfl) | (obtain ⟨_, _, rfl, _⟩ := h; rfl) | (obtain ⟨_, rfl, _⟩ := h; rfl)) ⟨_, fun cdv A outer s H E hr => (@a0c _ _ _ _ _ (@a0D _ _ _ _ 2 _ _ a9D a2n.nd (by rfl) (by walk_at "2") (by rfl) (by walk_at "4")) (@a0c _ _ _ _ _ (@a2H _ _ _ _ _ _ _ _ PassesOwn.never rfl (@a8J _ _ _ _ (@hv _ 0 _ _ (by rfl) (by walk_at "3") (by decide) (by decide))) (@a0J _ _ 3 _ a2n.nd (by rfl) (by walk_at "2") (by walk_at "4")) (@a0h _ _ _ (@a2H _ _ _ _ _ _ _ _ PassesOwn.never rfl (@a8J _ _ _ _ (@hv _ 1 _ _ (by rfl) (by walk_at "3") (by decide) (by decide))) (@a0J _ _ 4 _ a2n.nd (by rfl) (by walk_at "2") (by walk_at "4")) (@a0h _ _ _ (@a2U _ _ _ _ (@a0m _ _ _ _ _ _ _ _ _ _ D__law_put hr (@a0a _ _ _ _ _ (@hv _ 2 _ _ (by rfl) (by walk_at "3") (by decide) (by decide)) (@a0a _ _ _ _ _ (@a0i _ _ _ _ _ _ _ _ a0r (@hv _ 3 _ _ (by rfl) (by walk_at "3") (by decide) (by decide)) (@hv _ 4 _ _ (by rfl) (by walk_at "3") (by decide) (by decide))) (@a0a _ _ _ _ _ (@a0i _ _ _ _ _ _ _ _ a1d (@b3B _ _ _ _ _ _ hr.units (@hv _ 0 _ _ (by rfl) (by walk_at "3") (by decide) (by decide)) (@hv _ 3 _ _ (by rfl) (by walk_at "3") (by decide) (by decide)) (by intro _ _; rfl)) (@b3B _ _ _ _ _ _ hr.units (@hv _ 1 _ _ (by rfl) (by walk_at "3") (by decide) (by decide)) (@hv _ 4 _ _ (by rfl) (by walk_at "3") (by decide) (by decide)) (by intro _ _; rfl))) a0f (by rfl)) (by rfl)) (by rfl)) (by rfl) (by decide) (by rfl) (by rfl)) (by rfl))) (by intro _; rfl))) (by intro _; rfl)) (@a0h _ _ _ (@a1a _ _ _ _ (@h_wk _ _ _ (@hv _ 2 _ _ (by rfl) (by walk_at "3") (by decide) (by decide))))))), fun ts M Q h => ?_⟩
 unfold a2j at h
 split at h
 ·rename_i a b
  obtain ⟨p, q, L, ha, hb, hp, hq, hL, hpq, hsz, hpl, hql, h⟩ := h
  refine a0e fun K1 hK1 => ?_
  walk_at "rd"
  intro d hd
  have hMd : (updM M d (MO.dk [])) d = some (.dk (dkI [])) := a0d
  have hS := Sub.new hd (o := MO.dk [])
  have ha1 := hS _ _ ha
  have hb1 := hS _ _ hb
  have had : a ≠ d := fun z => by rw [z, hd] at ha; cases ha
  have hbd : b ≠ d := fun z => by rw [z, hd] at hb; cases hb
  generalize updM M d (MO.dk []) = M1 at hMd hS ha1 hb1 ⊢
  rw [hK1]; clear hK1
  refine a0e fun K2 hK2 => ?_
  refine a0K fun B hB => ?_
  unfold a2g
  walk_at "rd"
  rw [ha1]
  dsimp only
  refine ⟨fun i ρ M' => (∃ (x3 x4 : Option T), ρ = [some (T.adr a), some (T.adr b), some (T.adr d), x3, x4]) ∧ (∃ m : Po, M' d = some (.dk (dkI m)) ∧ Cl m ∧ (∀ x ∈ m, x.1 ∈ L) ∧ ∀ k, co m k = co (rawM (p.take i) q) k) ∧ M' a = some (.fk (dkI p)) ∧ M' b = some (.fk (dkI q)) ∧ Sub M M', ⟨⟨_, _, rfl⟩, ⟨[], hMd, ⟨.nil, fun _ z => absurd z List.not_mem_nil⟩, fun _ z => absurd z List.not_mem_nil, fun k => rfl⟩, ha1, hb1, hS⟩, fun _ _ _ _ => trivial, ?_, ?_⟩
  ·rintro i x ρ M' hx ⟨⟨x3, x4, rfl⟩, ⟨m, hm, hnd, hmL, hco⟩, ha2, hb2, hS1⟩
   obtain ⟨⟨y1, y2⟩, hx2, rfl⟩ : ∃ y, p[i]? = some y ∧ T.int y.1 = x := by
    unfold a5C dkI at hx
    rw [List.map_map, List.getElem?_map] at hx
    exact Option.map_eq_some_iff.mp hx
   have hyp := List.mem_of_getElem? hx2
   have hyv := b2s hp hyp
   dsimp only at hyv ⊢
   rw [hB]; clear hB
   refine a0K fun B2 hB2 => ?_
   unfold a2g
   walk_at "rd"
   rw [hb2]
   dsimp only
   refine ⟨fun j ρ M2 => (∃ (x4 : Option T), ρ = [some (T.adr a), some (T.adr b), some (T.adr d), some (T.int y1), x4]) ∧ (∃ m2 : Po, M2 d = some (.dk (dkI m2)) ∧ Cl m2 ∧ (∀ x ∈ m2, x.1 ∈ L) ∧ ∀ k, co m2 k = co m k + co ((q.take j).map fun b => (y1 + b.1, y2 * b.2)) k) ∧ M2 a = some (.fk (dkI p)) ∧ M2 b = some (.fk (dkI q)) ∧ Sub M M2, ⟨⟨_, rfl⟩, ⟨m, hm, hnd, hmL, fun k => by show _ = co m k + 0; rw [Int.add_zero]⟩, ha2, hb2, hS1⟩, fun _ _ _ _ => trivial, ?_, ?_⟩
   ·rintro j z ρ M2 hz ⟨⟨x4, rfl⟩, ⟨m2, hm2, hnd2, hmL2, hco2⟩, ha3, hb3, hS2⟩
    obtain ⟨⟨z1, z2⟩, hz2, rfl⟩ : ∃ y, q[j]? = some y ∧ T.int y.1 = z := by
     unfold a5C dkI at hz
     rw [List.map_map, List.getElem?_map] at hz
     exact Option.map_eq_some_iff.mp hz
    have hzq := List.mem_of_getElem? hz2
    have hzL := hpq _ hyp _ hzq
    have hy2 : CMul y2 z2 := by
     rcases hsz with s | s
     ·have := s _ hyp
      exact .inl ⟨by lia, by lia⟩
     ·have := s _ hzq
      exact .inr ⟨by lia, by lia⟩
    have hzv := b2s hq hzq
    dsimp only at hzL hy2 hzv ⊢
    rw [hB2]; clear hB2
    walk_at "rd"
    rw [ha3]
    dsimp only
    refine ⟨.inl y1, _, rfl, hyv, ?_⟩
    rw [hb3]
    dsimp only
    refine ⟨.inl z1, _, rfl, hzv, ?_⟩
    dsimp only
    refine ⟨hy2, m2, hm2, hnd2, ?_, ?_⟩
    ·have := a2u hnd2.1 hmL2
     lia
    ·have ht : q.take (j + 1) = q.take j ++ [(z1, z2)] := by rw [List.take_add_one, hz2]; rfl
     refine ⟨⟨_, rfl⟩, ⟨putC (y1 + z1) (y2 * z2) m2, a0d, hnd2.put, a9j hzL hmL2, fun k => ?_⟩, by rw [a0o had]; exact ha3, by rw [a0o hbd]; exact hb3, hS2.updF hd⟩
     rw [b2o hnd2, hco2, ht, List.map_append, a0X]
     show _ = co m k + (_ + ((if y1 + z1 = k then y2 * z2 else 0) + 0))
     lia
   ·rintro ρ M2 ⟨⟨x4, rfl⟩, ⟨m2, hm2, hnd2, hmL2, hco2⟩, ha3, hb3, hS2⟩
    refine ⟨⟨_, _, rfl⟩, ⟨m2, hm2, hnd2, hmL2, fun k => ?_⟩, ha3, hb3, hS2⟩
    rw [a2O, a4C, List.take_length] at hco2
    rw [hco2 k, hco k, b1e hx2]
  ·rintro ρ M' ⟨⟨x3, x4, rfl⟩, ⟨m, hm, hnd, hmL, hco⟩, ha2, hb2, hS1⟩
   rw [a2O, a4C, List.take_length] at hco
   rw [hK2]; clear hK2
   walk_at "rd"
   refine ⟨_, b4s hm, a0j (h d m _ hd (hS1.updF hd) a0d hnd hmL hco)⟩
 ·exact h.elim
noncomputable def lpL : Po := [(2, -1), (-2, -1)]
theorem b4x : toL lpL = dlt := Subtype.ext (by decide)
theorem b4d : Cl lpL := ⟨by decide, by decide⟩
theorem b7o : EvB 2 lpL := by unfold EvB; decide
theorem b2r {b : Nat} {m : Po} (h : Cl m) (hL : ∀ x ∈ m, x.1 ∈ stpE b) : m.length ≤ b + 1 := by
 have := a2u h.1 hL
 rwa [a4k] at this
theorem b0O {b : Nat} {m : Po} (hL : ∀ x ∈ m, x.1 ∈ stpE b) : EvB b m := fun x hx => by
 obtain ⟨i, hi, e⟩ := List.mem_map.mp (hL x hx)
 have := List.mem_range.mp hi
 rw [← e]
 exact ⟨by lia, by lia⟩
theorem b4w {m p q : Po} (h : ∀ k, co m k = co (rawM p q) k) : toL m = toL p * toL q := by
 rw [← a2x]
 exact Lp.ext2 fun c => by rw [co_L, co_L, h]; unfold a1l; rw [a2c]
noncomputable def a2L : Sp3 := fun ts M Q => match ts with
 | [.adr a] => ∃ m : Po, M a = some (.fk (dkI m)) ∧ Cl m ∧ m.length < 64 ∧ Q (poT (norm m)) M
 | _ => False
theorem a7l {P : Program} {w : World} {K : PySem.W.Frag} {mg : Str → Option Value} {base : Heap} {f : Addr} {fd : FuncData} {n : Nat}  (F : Fun K "_law_told" "_law_told" a1q f fd) (hm : mg "_law_told" = some (.ref f)) (hb : a0Y K fd ["found"] []) (Z : Zs K mg)  : Df P w K mg base (n + 1) "_law_told" ["found"] a2L := by
 refine F.dfn hm hb a7b (by intro ts M Q h; unfold a2L at h; first | (split at h <;> first | rfl | exact h.elim) | (obtain ⟨_, _, _, _, _, rfl, _⟩ := h; rfl) | (obtain ⟨_, _, _, _, rfl, _⟩ := h; rfl) | (obtain ⟨_, _, _, rfl, _⟩ := h; rfl) | (obtain ⟨_, _, rfl, _⟩ := h; rfl) | (obtain ⟨_, rfl, _⟩ := h; rfl)) ⟨_, fun cdv A outer s H E hr => (@a0h _ _ _ (@a1a _ _ _ _ (@a3q _ _ _ _ _ _ _ _ _ a4e Z.b_tuple PyProof.Rows.boot_tuple (@a0a _ _ _ _ _ (@a7G _ _ _ _ _ _ _ _ _ _ _ _ _ _ rfl (@a3P _ _ _ _ (@a0B _ _ _ _ _ _ _ _ _ (@a6O _ rfl) Z.b_sorted PyProof.Rows.boot_sorted (@a0a _ _ _ _ _ (@hv _ 0 _ _ (by rfl) (by walk_at "3") (by decide) (by decide)) a0f (by rfl)) (by rfl) (by decide) (by decide) (by rfl) (by rfl))) (@a1H _ (a0b a1q) _ ["found"] (["power", "found"]) ([none, some 0]) (by decide +kernel) rfl rfl) a4f (fun _ _ _ _ _ => @a2b _ _ 0 _ (show List.Nodup (["power", "found"] : List Str) by decide +kernel) rfl (Or.inl rfl) (Or.inr rfl)) (fun _ _ _ _ _ => a4E) (fun _ _ _ _ _ => (@a3a _ _ _ _ _ (@a0a _ _ _ _ _ (@hv _ 0 _ _ (by rfl) (by walk_at "3") (by decide) (by decide)) (@a0a _ _ _ _ _ (@b3B _ _ _ _ _ _ hr.units (@hv _ 1 _ _ (by rfl) (by walk_at "3") (by decide) (by decide)) (@hv _ 0 _ _ (by rfl) (by walk_at "3") (by decide) (by decide)) (by intro _ _; rfl)) a0f (by rfl)) (by rfl)))) (by intro _; rfl)) a0f (by rfl)) (by rfl) (by decide) (by decide) (by rfl) (by rfl)))), fun ts M Q h => ?_⟩
 unfold a2L at h
 split at h
 ·rename_i a
  obtain ⟨m, ha, hm, h64, h⟩ := h
  walk_at "rd"
  rw [ha]
  dsimp only
  refine ⟨m.map Prod.fst, a4P m, by rw [List.length_map]; exact h64, fun ms hpm hs r hr => ?_⟩
  have hnd := hm.1
  have hS := Sub.new hr (o := MO.lst (ms.map T.int))
  have hM1 : (updM M r (MO.lst (ms.map T.int))) r = some (.lst (ms.map T.int)) := a0d
  have ha1 := hS _ _ ha
  generalize updM M r (MO.lst (ms.map T.int)) = M1 at hS hM1 ha1 ⊢
  have hml : ms.length < 64 := by rw [hpm.length_eq, List.length_map]; exact h64
  refine ⟨fun i ys M' => ys = ((ms.take i).map fun k => (k, co m k)).map prT ∧ M' = M1, ⟨rfl, rfl⟩, ?_, by first | exact a0C (by lia) | (rw [List.length_map]; exact a0C (by lia)), ?_, ?_⟩
  ·rintro i ys M' ⟨_, rfl⟩
   exact hM1
  ·rintro i x ys M' hx ⟨rfl, rfl⟩
   obtain ⟨k, hx2, rfl⟩ := a2D hx
   have hk : k ∈ m.map Prod.fst := hpm.mem_iff.mp (List.mem_of_getElem? hx2)
   have hv := a1s hnd hk
   rw [ha1]
   dsimp only
   refine ⟨.inl k, _, rfl, hv, by decide, ?_, rfl⟩
   rw [← a2f (fun k => (k, co m k)) hx2, List.map_append]; rfl
  ·rintro ys M' ⟨rfl, rfl⟩ q hq
   have e1 : ms.filter (fun k => decide (co m k ≠ 0)) = ms := List.filter_eq_self.mpr fun k hk => by
    obtain ⟨x, hx, rfl⟩ := List.mem_map.mp (hpm.mem_iff.mp hk)
    rw [b5N hnd hx]
    exact decide_eq_true (hm.2 x hx)
   have e2 := a5f hnd hpm hs
   rw [e1] at e2
   rw [List.take_length, e2]
   exact a3x h (hS.newr hq)
 ·exact h.elim
theorem b5d (p : Po) : a0v (poT p) = true ∧ depT (poT p) ≤ 30 := by
 have e : p.map prT = (p.map fun x => [x.1, x.2]).map fun u => T.tup (u.map .int) := by rw [List.map_map]; rfl
 unfold poT
 rw [a4q, a4Q, e]
 exact ⟨a4Y _, by have := a5X (p.map fun x => [x.1, x.2]); lia⟩
noncomputable def a1T : Sp3 := fun ts M Q => match ts with
 | [.tup a, .tup b] => ∃ p : Po, a = p.map prT ∧ b = p.map prT ∧ p.length < 10000 ∧ Q (.bl true) M
 | _ => False
theorem a5B {P : Program} {w : World} {K : PySem.W.Frag} {mg : Str → Option Value} {base : Heap} {f : Addr} {fd : FuncData} {n : Nat}  (F : Fun K "_law_is_sum" "_law_is_sum" a1j f fd) (hm : mg "_law_is_sum" = some (.ref f)) (hb : a0Y K fd ["found", "due"] []) (Z : Zs K mg) (D__law_whole : Df P w K mg base n "_law_whole" ["found"] a1D) : Df P w K mg base (n + 1) "_law_is_sum" ["found", "due"] a1T := by
 refine F.dfn hm hb a3U (by intro ts M Q h; unfold a1T at h; first | (split at h <;> first | rfl | exact h.elim) | (obtain ⟨_, _, _, _, _, rfl, _⟩ := h; rfl) | (obtain ⟨_, _, _, _, rfl, _⟩ := h; rfl) | (obtain ⟨_, _, _, rfl, _⟩ := h; rfl) | (obtain ⟨_, _, rfl, _⟩ := h; rfl) | (obtain ⟨_, rfl, _⟩ := h; rfl)) ⟨_, fun cdv A outer s H E hr => (@a0c _ _ _ _ _ (@s_if _ _ _ _ _ _ _ _ (@HW.ht _ _ _ (@w_or _ _ _ _ _ _ _ (@a7E _ _ _ _ (@a3p _ _ _ (@b3A _ _ _ _ _ _ _ .tup (@hv _ 0 _ _ (by rfl) (by walk_at "3") (by decide) (by decide)) Z.b_isinstance Z.b_tuple PyProof.Rows.boot_tuple (by intro z; cases z) (by rfl) (by rfl) (by decide) (by decide) (by rfl) (by rfl) (by rfl)) (by intro _; rfl))) (@b2K _ _ _ _ (@a1X _ _ _ _ _ _ _ _ (@b1u _ hr.units) (@hv _ 0 _ _ (by rfl) (by walk_at "3") (by decide) (by decide)) (@hv _ 1 _ _ (by rfl) (by walk_at "3") (by decide) (by decide)) (@a1C _ _ (by decide) (by decide)))))) (@a0h _ _ _ (@a1a _ _ _ _ h_bl)) a2y) (@a0c _ _ _ _ _ (@a2H _ _ _ _ _ _ _ _ PassesOwn.never rfl (@a3P _ _ _ _ (@hv _ 0 _ _ (by rfl) (by walk_at "3") (by decide) (by decide))) (@a0J _ _ 2 _ a3U.nd (by rfl) (by walk_at "2") (by walk_at "4")) (@a0h _ _ _ (@s_if _ _ _ _ _ _ _ _ (@HW.ht _ _ _ (@w_or _ _ _ _ _ _ _ (@a7E _ _ _ _ (@a3p _ _ _ (@b3A _ _ _ _ _ _ _ .tup (@hv _ 2 _ _ (by rfl) (by walk_at "3") (by decide) (by decide)) Z.b_isinstance Z.b_tuple PyProof.Rows.boot_tuple (by intro z; cases z) (by rfl) (by rfl) (by decide) (by decide) (by rfl) (by rfl) (by rfl)) (by intro _; rfl))) (@w_or _ _ _ _ _ _ _ (@a7E _ _ _ _ (@a3p _ _ _ (@a0m _ _ _ _ _ _ _ _ _ _ D__law_whole hr (@a0a _ _ _ _ _ (@h_ix _ _ _ _ _ _ (@hv _ 2 _ _ (by rfl) (by walk_at "3") (by decide) (by decide)) a0g (by intro _ _; rfl)) a0f (by rfl)) (by rfl) (by decide) (by rfl) (by rfl)) (by intro _; rfl))) (@b2K _ _ _ _ (@a7E _ _ _ _ (@a3p _ _ _ (@a0m _ _ _ _ _ _ _ _ _ _ D__law_whole hr (@a0a _ _ _ _ _ (@h_ix _ _ _ _ _ _ (@hv _ 2 _ _ (by rfl) (by walk_at "3") (by decide) (by decide)) a0g (by intro _ _; rfl)) a0f (by rfl)) (by rfl) (by decide) (by rfl) (by rfl)) (by intro _; rfl))))))) (@a0h _ _ _ (@a1a _ _ _ _ h_bl)) a2y)) (by intro _; rfl)) (@a0h _ _ _ (@a1a _ _ _ _ h_bl)))), fun ts M Q h => ?_⟩
 unfold a1T at h
 split at h
 ·rename_i a b
  obtain ⟨p, rfl, rfl, hl, h⟩ := h
  refine a0e fun K1 hK1 => ?_
  walk_at "rd"
  obtain ⟨e1, e2⟩ := b5d p
  unfold poT at e1 e2
  rw [a4q] at e1
  rw [a4Q] at e2
  refine ⟨e1, e1, e2, ?_⟩
  rw [a5n _ e1, if_neg (by decide)]
  rw [hK1]; clear hK1
  refine a0e fun K2 hK2 => ?_
  refine a0K fun B hB => ?_
  unfold a2g
  walk_at "rd"
  refine ⟨fun i ρ M' => (∃ x2 : Option T, ρ = [some (T.tup (p.map prT)), some (T.tup (p.map prT)), x2]) ∧ M' = M, ⟨⟨_, rfl⟩, rfl⟩, fun _ _ _ _ => trivial, ?_, ?_⟩
  ·rintro i x ρ M' hx ⟨⟨x2, rfl⟩, rfl⟩
   obtain ⟨⟨y1, y2⟩, hx2, rfl⟩ : ∃ y, p[i]? = some y ∧ prT y = x := by
    rw [List.getElem?_map] at hx
    exact Option.map_eq_some_iff.mp hx
   rw [show prT (y1, y2) = T.tup [T.int y1, T.int y2] from rfl]
   dsimp only
   rw [hB]; clear hB
   walk_at "rd"
   dsimp only [a1D]
   rw [if_neg (by decide), if_neg (by decide)]
   exact ⟨⟨_, rfl⟩, rfl⟩
  ·rintro ρ M' ⟨⟨x2, rfl⟩, rfl⟩
   rw [hK2]
   walk_at "rd"
   exact a0j h
 ·exact h.elim
noncomputable def jT (j : Nat × Nat) : T := .tup [.int (j.1 : Nat), .int (j.2 : Nat)]
theorem b5t (L : List (Nat × Nat)) (a b : Nat) : L.map jT ++ [T.tup [T.int (a : Nat), T.int (b : Nat)]] = (L ++ [(a, b)]).map jT := by rw [List.map_append]; rfl
theorem b2D {n : Nat} : ∀ (ls : List Nat) (k : Nat), (∀ i ∈ ls, i < n) → (∀ j ∈ allJ n k ls, j.1 < n * (k + ls.length + 1) ∧ j.2 < n * (k + ls.length + 1)) ∧ (allJ n k ls).length ≤ (n + 2) * ls.length
 | [], k, _ => ⟨fun j hj => absurd hj List.not_mem_nil, Nat.zero_le _⟩
 | i :: ls, k, hi => by
   obtain ⟨h1, h2⟩ := b2D ls (k + 1) fun x hx => hi x (.tail _ hx)
   have hin := hi i (.head _)
   have e : n * (k + (ls.length + 1) + 1) = n * k + n + n * ls.length + n := by
    rw [show k + (ls.length + 1) + 1 = k + 1 + ls.length + 1 by lia, Nat.mul_add, Nat.mul_add, Nat.mul_add, Nat.mul_one]
   refine ⟨fun j hj => ?_, ?_⟩
   ·rw [List.length_cons]
    have hj : j ∈ layJ n k i ++ allJ n (k + 1) ls := hj
    rcases List.mem_append.mp hj with z | z
    ·unfold layJ at z
     rcases List.mem_append.mp z with y | y
     ·obtain ⟨p, hp, rfl⟩ := List.mem_map.mp y
      have := List.mem_range.mp (List.mem_filter.mp hp).1
      rw [e]
      exact ⟨by dsimp only; lia, by dsimp only; lia⟩
     ·by_cases c : i = 0
      ·rw [if_pos c] at y; exact absurd y List.not_mem_nil
      ·rw [if_neg c] at y
       rw [e]
       rcases List.mem_cons.mp y with rfl | y
       ·exact ⟨by dsimp only; lia, by dsimp only; lia⟩
       ·rw [List.mem_singleton.mp y]
        exact ⟨by dsimp only; lia, by dsimp only; lia⟩
    ·have := h1 j z
     rw [show k + 1 + ls.length + 1 = k + (ls.length + 1) + 1 by lia] at this
     exact this
   ·show (layJ n k i ++ allJ n (k + 1) ls).length ≤ _
    have hl : (layJ n k i).length ≤ n + 2 := by
     unfold layJ
     rw [List.length_append, List.length_map]
     have := List.length_filter_le (fun p => !(i != 0 && (p == i - 1 || p == i))) (List.range n)
     rw [List.length_range] at this
     split
     ·rw [List.length_nil]; lia
     ·rw [List.length_cons, List.length_cons, List.length_nil]; lia
    rw [List.length_append, List.length_cons, Nat.mul_add, Nat.mul_one]
    lia
noncomputable def a2m : Sp3 := fun ts M Q => match ts with
 | [.int n, .tup w, .adr h] => ∃ (m : Nat) (ws : List Int) (hs : List Bool), n = m ∧ w = ws.map .int ∧ M h = some (.lst (hs.map .bl)) ∧ 1 ≤ m ∧ m ≤ 4 ∧ ws.length ≤ 5 ∧ hs.length = ws.length ∧ (∀ l ∈ ws, LetN m l) ∧ ∀ M', Sub M M' → Q (.int (dd (lwM m (lyH ws hs)) : Nat)) M'
 | _ => False
theorem a6A {P : Program} {w : World} {K : PySem.W.Frag} {mg : Str → Option Value} {base : Heap} {f : Addr} {fd : FuncData} {n : Nat}  (F : Fun K "_law_loops" "_law_loops" a0T f fd) (hm : mg "_law_loops" = some (.ref f)) (hb : a0Y K fd ["strands", "word", "hooks"] []) (Z : Zs K mg)  : Df P w K mg base (n + 1) "_law_loops" ["strands", "word", "hooks"] a2m := by
 refine F.dfn hm hb a0s (by intro ts M Q h; unfold a2m at h; first | (split at h <;> first | rfl | exact h.elim) | (obtain ⟨_, _, _, _, _, rfl, _⟩ := h; rfl) | (obtain ⟨_, _, _, _, rfl, _⟩ := h; rfl) | (obtain ⟨_, _, _, rfl, _⟩ := h; rfl) | (obtain ⟨_, _, rfl, _⟩ := h; rfl) | (obtain ⟨_, rfl, _⟩ := h; rfl)) ⟨_, fun cdv A outer s H E hr => (@a0c _ _ _ _ _ (@a0D _ _ _ _ 3 _ _ (@a0i _ _ _ _ _ _ _ _ a0r (@a0B _ _ _ _ _ _ _ _ _ a0E Z.b_len PySem.boot_len (@a0a _ _ _ _ _ (@hv _ 1 _ _ (by rfl) (by walk_at "3") (by decide) (by decide)) a0f (by rfl)) (by rfl) (by decide) (by decide) (by rfl) (by rfl)) a0g) a0s.nd (by rfl) (by walk_at "2") (by rfl) (by walk_at "4")) (@a0c _ _ _ _ _ (@a0D _ _ _ _ 4 _ _ (@a3A _ _ _ _ _ _ _ Z.b_list Z.b_range (@a0a _ _ _ _ _ (@a0i _ _ _ _ _ _ _ _ a1d (@hv _ 0 _ _ (by rfl) (by walk_at "3") (by decide) (by decide)) (@hv _ 3 _ _ (by rfl) (by walk_at "3") (by decide) (by decide))) a0f (by rfl)) (by rfl) (by rfl) (by rfl) (by rfl) (by rfl)) a0s.nd (by rfl) (by walk_at "2") (by rfl) (by walk_at "4")) (@a0c _ _ _ _ _ (@a9e _ _ _ _ _ _ _ _ _ _ _ _ _ _ 5 _ _ _ rfl (@a1U _ _ _ _ _ _ Z.b_range (@a0a _ _ _ _ _ (@hv _ 0 _ _ (by rfl) (by walk_at "3") (by decide) (by decide)) a0f (by rfl)) (by rfl) (by rfl)) (@a1H _ (a0b a0T) _ (["strands", "word", "hooks", "many", "mark", "joins", "k", "here", "at", "place", "one", "other", "low", "high"]) (["place", "strands", "many"]) ([none, some 0, some 3]) (by decide +kernel) rfl rfl) a4f (fun _ _ _ _ _ => @a2b _ _ 0 _ (show List.Nodup (["place", "strands", "many"] : List Str) by decide +kernel) rfl (Or.inl rfl) (Or.inr rfl)) (fun _ _ _ _ _ => a4E) (fun _ _ _ _ _ => (@a3a _ _ _ _ _ (@a0a _ _ _ _ _ (@hv _ 0 _ _ (by rfl) (by walk_at "3") (by decide) (by decide)) (@a0a _ _ _ _ _ (@a0i _ _ _ _ _ _ _ _ a0r (@a0i _ _ _ _ _ _ _ _ a1d (@hv _ 1 _ _ (by rfl) (by walk_at "3") (by decide) (by decide)) (@a0i _ _ _ _ _ _ _ _ a1E (@hv _ 2 _ _ (by rfl) (by walk_at "3") (by decide) (by decide)) a0g)) (@hv _ 0 _ _ (by rfl) (by walk_at "3") (by decide) (by decide))) a0f (by rfl)) (by rfl)))) a0s.nd (by rfl) (by walk_at "2") (by rfl) (by intro _; rfl) (by walk_at "4")) (@a0c _ _ _ _ _ (@a2H _ _ _ _ _ _ _ _ PassesOwn.never rfl (@a1U _ _ _ _ _ _ Z.b_range (@a0a _ _ _ _ _ (@a0B _ _ _ _ _ _ _ _ _ a0E Z.b_len PySem.boot_len (@a0a _ _ _ _ _ (@hv _ 1 _ _ (by rfl) (by walk_at "3") (by decide) (by decide)) a0f (by rfl)) (by rfl) (by decide) (by decide) (by rfl) (by rfl)) a0f (by rfl)) (by rfl) (by rfl)) (@a0J _ _ 6 _ a0s.nd (by rfl) (by walk_at "2") (by walk_at "4")) (@a0c _ _ _ _ _ (@a0D _ _ _ _ 7 _ _ (@a0i _ _ _ _ _ _ _ _ a1d (@hv _ 0 _ _ (by rfl) (by walk_at "3") (by decide) (by decide)) (@hv _ 6 _ _ (by rfl) (by walk_at "3") (by decide) (by decide))) a0s.nd (by rfl) (by walk_at "2") (by rfl) (by walk_at "4")) (@a0c _ _ _ _ _ (@a0D _ _ _ _ 8 _ _ (@a0i _ _ _ _ _ _ _ _ a1E (@a0B _ _ _ _ _ _ _ _ _ a3H Z.b_abs PyProof.Rows.boot_abs (@a0a _ _ _ _ _ (@h_ix _ _ _ _ _ _ (@hv _ 1 _ _ (by rfl) (by walk_at "3") (by decide) (by decide)) (@hv _ 6 _ _ (by rfl) (by walk_at "3") (by decide) (by decide)) (by intro _ _; rfl)) a0f (by rfl)) (by rfl) (by decide) (by decide) (by rfl) (by rfl)) a0g) a0s.nd (by rfl) (by walk_at "2") (by rfl) (by walk_at "4")) (@a0c _ _ _ _ _ (@a2H _ _ _ _ _ _ _ _ PassesOwn.never rfl (@a1U _ _ _ _ _ _ Z.b_range (@a0a _ _ _ _ _ (@hv _ 0 _ _ (by rfl) (by walk_at "3") (by decide) (by decide)) a0f (by rfl)) (by rfl) (by rfl)) (@a0J _ _ 9 _ a0s.nd (by rfl) (by walk_at "2") (by walk_at "4")) (@a0h _ _ _ (@s_if _ _ _ _ _ _ _ _ (@HW.ht _ _ _ (@w_or _ _ _ _ _ _ _ (@a1X _ _ _ _ _ _ _ _ b1t (@hv _ 9 _ _ (by rfl) (by walk_at "3") (by decide) (by decide)) (@a5F _ _ _ _ (@a0a _ _ _ _ _ (@hv _ 8 _ _ (by rfl) (by walk_at "3") (by decide) (by decide)) (@a0a _ _ _ _ _ (@a0i _ _ _ _ _ _ _ _ a0r (@hv _ 8 _ _ (by rfl) (by walk_at "3") (by decide) (by decide)) a0g) a0f (by rfl)) (by rfl))) rfl) (@b2K _ _ _ _ (@a7E _ _ _ _ (@a3p _ _ _ (@h_ix _ _ _ _ _ _ (@hv _ 2 _ _ (by rfl) (by walk_at "3") (by decide) (by decide)) (@hv _ 6 _ _ (by rfl) (by walk_at "3") (by decide) (by decide)) (by intro _ _; rfl)) (by intro _; rfl)))))) (@a0h _ _ _ (@a2U _ _ _ _ (@a2v _ _ _ _ _ _ _ _ (@hv _ 5 _ _ (by rfl) (by walk_at "3") (by decide) (by decide)) (@a1Q _ _ _ _ _ _ _ (@a3a _ _ _ _ _ (@a0a _ _ _ _ _ (@a0i _ _ _ _ _ _ _ _ a0r (@hv _ 7 _ _ (by rfl) (by walk_at "3") (by decide) (by decide)) (@hv _ 9 _ _ (by rfl) (by walk_at "3") (by decide) (by decide))) (@a0a _ _ _ _ _ (@a0i _ _ _ _ _ _ _ _ a0r (@a0i _ _ _ _ _ _ _ _ a0r (@hv _ 7 _ _ (by rfl) (by walk_at "3") (by decide) (by decide)) (@hv _ 0 _ _ (by rfl) (by walk_at "3") (by decide) (by decide))) (@hv _ 9 _ _ (by rfl) (by walk_at "3") (by decide) (by decide))) a0f (by rfl)) (by rfl))) a0f) (by rfl) (by rfl) (by rfl) (by rfl) (by rfl)) (by rfl))) a2y)) (by intro _; rfl)) (@a0h _ _ _ (@s_if _ _ _ _ _ _ _ _ (@a3p _ _ _ (@h_ix _ _ _ _ _ _ (@hv _ 2 _ _ (by rfl) (by walk_at "3") (by decide) (by decide)) (@hv _ 6 _ _ (by rfl) (by walk_at "3") (by decide) (by decide)) (by intro _ _; rfl)) (by intro _; rfl)) (@a0c _ _ _ _ _ (@a2U _ _ _ _ (@a2v _ _ _ _ _ _ _ _ (@hv _ 5 _ _ (by rfl) (by walk_at "3") (by decide) (by decide)) (@a1Q _ _ _ _ _ _ _ (@a3a _ _ _ _ _ (@a0a _ _ _ _ _ (@a0i _ _ _ _ _ _ _ _ a0r (@hv _ 7 _ _ (by rfl) (by walk_at "3") (by decide) (by decide)) (@hv _ 8 _ _ (by rfl) (by walk_at "3") (by decide) (by decide))) (@a0a _ _ _ _ _ (@a0i _ _ _ _ _ _ _ _ a0r (@a0i _ _ _ _ _ _ _ _ a0r (@hv _ 7 _ _ (by rfl) (by walk_at "3") (by decide) (by decide)) (@hv _ 8 _ _ (by rfl) (by walk_at "3") (by decide) (by decide))) a0g) a0f (by rfl)) (by rfl))) a0f) (by rfl) (by rfl) (by rfl) (by rfl) (by rfl)) (by rfl)) (@a0h _ _ _ (@a2U _ _ _ _ (@a2v _ _ _ _ _ _ _ _ (@hv _ 5 _ _ (by rfl) (by walk_at "3") (by decide) (by decide)) (@a1Q _ _ _ _ _ _ _ (@a3a _ _ _ _ _ (@a0a _ _ _ _ _ (@a0i _ _ _ _ _ _ _ _ a0r (@a0i _ _ _ _ _ _ _ _ a0r (@hv _ 7 _ _ (by rfl) (by walk_at "3") (by decide) (by decide)) (@hv _ 0 _ _ (by rfl) (by walk_at "3") (by decide) (by decide))) (@hv _ 8 _ _ (by rfl) (by walk_at "3") (by decide) (by decide))) (@a0a _ _ _ _ _ (@a0i _ _ _ _ _ _ _ _ a0r (@a0i _ _ _ _ _ _ _ _ a0r (@a0i _ _ _ _ _ _ _ _ a0r (@hv _ 7 _ _ (by rfl) (by walk_at "3") (by decide) (by decide)) (@hv _ 0 _ _ (by rfl) (by walk_at "3") (by decide) (by decide))) (@hv _ 8 _ _ (by rfl) (by walk_at "3") (by decide) (by decide))) a0g) a0f (by rfl)) (by rfl))) a0f) (by rfl) (by rfl) (by rfl) (by rfl) (by rfl)) (by rfl)))) a2y))))) (by intro _; rfl)) (@a0c _ _ _ _ _ (@a2H _ _ _ _ _ _ _ _ PassesOwn.never rfl (@a3P _ _ _ _ (@hv _ 5 _ _ (by rfl) (by walk_at "3") (by decide) (by decide))) (@a7H _ _ _ _ _ 2 rfl (@a1m _ _ _ _ _ (@a0J _ _ 10 _ a0s.nd (by rfl) (by walk_at "2") (by walk_at "4")) (@a1m _ _ _ _ _ (@a0J _ _ 11 _ a0s.nd (by rfl) (by walk_at "2") (by walk_at "4")) a4H (by rfl)) (by rfl)) (by rfl) (by rfl)) (@a0c _ _ _ _ _ (@a0D _ _ _ _ 12 _ _ (@a0B _ _ _ _ _ _ _ _ _ (@b2x _ rfl) Z.b_min PyProof.Rows.boot_min (@a0a _ _ _ _ _ (@h_ix _ _ _ _ _ _ (@hv _ 4 _ _ (by rfl) (by walk_at "3") (by decide) (by decide)) (@hv _ 10 _ _ (by rfl) (by walk_at "3") (by decide) (by decide)) (by intro _ _; rfl)) (@a0a _ _ _ _ _ (@h_ix _ _ _ _ _ _ (@hv _ 4 _ _ (by rfl) (by walk_at "3") (by decide) (by decide)) (@hv _ 11 _ _ (by rfl) (by walk_at "3") (by decide) (by decide)) (by intro _ _; rfl)) a0f (by rfl)) (by rfl)) (by rfl) (by decide) (by decide) (by rfl) (by rfl)) a0s.nd (by rfl) (by walk_at "2") (by rfl) (by walk_at "4")) (@a0c _ _ _ _ _ (@a0D _ _ _ _ 13 _ _ (@a0B _ _ _ _ _ _ _ _ _ (@b2y _ rfl) Z.b_max PyProof.Rows.boot_max (@a0a _ _ _ _ _ (@h_ix _ _ _ _ _ _ (@hv _ 4 _ _ (by rfl) (by walk_at "3") (by decide) (by decide)) (@hv _ 10 _ _ (by rfl) (by walk_at "3") (by decide) (by decide)) (by intro _ _; rfl)) (@a0a _ _ _ _ _ (@h_ix _ _ _ _ _ _ (@hv _ 4 _ _ (by rfl) (by walk_at "3") (by decide) (by decide)) (@hv _ 11 _ _ (by rfl) (by walk_at "3") (by decide) (by decide)) (by intro _ _; rfl)) a0f (by rfl)) (by rfl)) (by rfl) (by decide) (by decide) (by rfl) (by rfl)) a0s.nd (by rfl) (by walk_at "2") (by rfl) (by walk_at "4")) (@a0h _ _ _ (@a9e _ _ _ _ _ _ _ _ _ _ _ _ _ _ 4 _ _ _ rfl (@a3P _ _ _ _ (@hv _ 4 _ _ (by rfl) (by walk_at "3") (by decide) (by decide))) (@a1H _ (a0b a0T) _ (["strands", "word", "hooks", "many", "mark", "joins", "k", "here", "at", "place", "one", "other", "low", "high"]) (["number", "low", "high"]) ([none, some 12, some 13]) (by decide +kernel) rfl rfl) a4f (fun _ _ _ _ _ => @a2b _ _ 0 _ (show List.Nodup (["number", "low", "high"] : List Str) by decide +kernel) rfl (Or.inl rfl) (Or.inr rfl)) (fun _ _ _ _ _ => a4E) (fun _ _ _ _ _ => (@h_ix _ _ _ _ _ _ (@a5F _ _ _ _ (@a0a _ _ _ _ _ (@hv _ 0 _ _ (by rfl) (by walk_at "3") (by decide) (by decide)) (@a0a _ _ _ _ _ (@hv _ 1 _ _ (by rfl) (by walk_at "3") (by decide) (by decide)) a0f (by rfl)) (by rfl))) (@a3q _ _ _ _ _ _ _ _ _ a5u Z.b_int PyProof.Rows.boot_int (@a0a _ _ _ _ _ (@b0u _ _ _ _ _ _ _ _ (@a5e _ hr.units) (@hv _ 0 _ _ (by rfl) (by walk_at "3") (by decide) (by decide)) (@hv _ 2 _ _ (by rfl) (by walk_at "3") (by decide) (by decide)) (@a1C _ _ (by decide) (by decide))) a0f (by rfl)) (by rfl) (by decide) (by decide) (by rfl) (by rfl)) (by intro _ _; rfl))) a0s.nd (by rfl) (by walk_at "2") (by rfl) (by intro _; rfl) (by walk_at "4"))))) (by intro _; rfl)) (@a0h _ _ _ (@a1a _ _ _ _ (@a7F _ _ _ _ _ _ _ rfl (@hv _ 4 _ _ (by rfl) (by walk_at "3") (by decide) (by decide)) Z.b_len Z.b_set (by rfl) (by rfl) (by rfl) (by rfl) (by rfl) (by rfl))))))))), fun ts M Q h => ?_⟩
 unfold a2m at h
 split at h
 ·rename_i n w a
  obtain ⟨m, ws, hs, rfl, rfl, ha, m1, m4, w5, hlw, hlet, h⟩ := h
  refine a0e fun K1 hK1 => ?_
  walk_at "rd"
  try rw [List.length_map]
  rw [show ((ws.length : Nat) : Int) + 1 = ((ws.length + 1 : Nat) : Int) by lia, hK1]; clear hK1
  refine a0e fun K2 hK2 => ?_
  walk_at "rd"
  have hmul : m * (ws.length + 1) ≤ 24 := by
   have := Nat.mul_le_mul m4 (show ws.length + 1 ≤ 6 by lia)
   lia
  rw [show ((m : Nat) : Int) * ((ws.length + 1 : Nat) : Int) = ((m * (ws.length + 1) : Nat) : Int) by lia]
  refine ⟨.inl ⟨by lia, by lia⟩, by lia, fun p hp => ?_⟩
  rw [show ((m * (ws.length + 1) : Nat) : Int).toNat = m * (ws.length + 1) by lia, a4y]
  have hMp : (updM M p (MO.lst (natT (List.range (m * (ws.length + 1)))))) p = some (.lst (natT (List.range (m * (ws.length + 1))))) := a0d
  have hS := Sub.new hp (o := MO.lst (natT (List.range (m * (ws.length + 1)))))
  have ha1 := hS _ _ ha
  generalize updM M p (MO.lst (natT (List.range (m * (ws.length + 1))))) = M1 at hMp hS ha1 ⊢
  rw [hK2]; clear hK2
  refine a0e fun K3 hK3 => ?_
  walk_at "rd"
  refine ⟨by lia, by lia, fun i ys M' => ys = ((List.range i).map fun p => (p, m * ws.length + p)).map jT ∧ M' = M1, ⟨rfl, rfl⟩, fun _ _ _ _ => trivial, by rw [a0t]; exact a0C (by lia), ?_, ?_⟩
  ·rintro i x ys M' hx ⟨rfl, rfl⟩
   obtain ⟨hi, rfl⟩ := a0P hx
   dsimp only
   refine ⟨.inl ⟨by lia, by lia⟩, by decide, ?_, rfl⟩
   rw [show (m : Int) * (((ws.length + 1 : Nat) : Int) - 1) + (i : Int) = ((m * ws.length + i : Nat) : Int) by lia, b5t, List.range_succ, List.map_append (f := fun p => (p, m * ws.length + p))]; rfl
  rintro ys M' ⟨rfl, rfl⟩ q hq
  rw [a0t, show ((m : Nat) : Int).toNat = m by lia]
  change K3 _ (updM M' q (MO.lst ((joC m ws.length).map jT)))
  have hpq : p ≠ q := fun z => by rw [z, hq] at hMp; cases hMp
  have haq : a ≠ q := fun z => by rw [z, hq] at ha1; cases ha1
  have hX := Sub.new hq (o := MO.lst ((joC m ws.length).map jT))
  have hMq : (updM M' q (MO.lst ((joC m ws.length).map jT))) q = some (.lst ((joC m ws.length).map jT)) := a0d
  have hMp2 := hX _ _ hMp
  have ha2 := hX _ _ ha1
  have hS2 := hS.trans hX
  have hq0 := a5g hS hq
  generalize updM M' q (MO.lst ((joC m ws.length).map jT)) = M2 at hMq hMp2 ha2 hS2 ⊢
  clear hX hMp ha1 hS hq
  rw [hK3]; clear hK3
  refine a0e fun K4 hK4 => ?_
  refine a0K fun B hB => ?_
  unfold a2g
  walk_at "rd"
  have hlyl : (lyH ws hs).length = ws.length := by unfold lyH; rw [List.length_zipWith, hlw, Nat.min_self]
  refine ⟨by lia, by lia, fun i ρ M' => (∃ (x6 x7 x8 x9 x10 x11 x12 x13 : Option T), ρ = [some (T.int (m : Nat)), some (T.tup (ws.map T.int)), some (T.adr a), some (T.int ((ws.length + 1 : Nat) : Int)), some (T.adr p), some (T.adr q), x6, x7, x8, x9, x10, x11, x12, x13]) ∧ M' q = some (.lst ((joC m ws.length ++ allJ m 0 ((lyH ws hs).take i)).map jT)) ∧ M' p = some (.lst (natT (List.range (m * (ws.length + 1))))) ∧ M' a = some (.lst (hs.map .bl)) ∧ Sub M M', ⟨⟨_, _, _, _, _, _, _, _, rfl⟩, ?_, hMp2, ha2, hS2⟩, fun _ _ _ _ => trivial, ?_, ?_⟩
  ·rw [List.take_zero]
   show M2 q = some (.lst ((joC m ws.length ++ []).map jT))
   rw [List.append_nil]; exact hMq
  ·rintro i x ρ M' hx ⟨⟨x6, x7, x8, x9, x10, x11, x12, x13, rfl⟩, hMq, hMp, ha, hS⟩
   obtain ⟨hi, rfl⟩ := a0P hx
   have hiw : i < ws.length := by lia
   obtain ⟨l, hl⟩ : ∃ l, ws[i]? = some l := ⟨_, List.getElem?_eq_getElem hiw⟩
   obtain ⟨b, hb⟩ : ∃ b, hs[i]? = some b := ⟨_, List.getElem?_eq_getElem (by lia)⟩
   obtain ⟨l1, l2⟩ := hlet l (List.mem_of_getElem? hl)
   have aw : atI (ws.map T.int) (i : Int) = some (.int l) := a2e (by rw [List.getElem?_map, hl]; rfl)
   have ab : atI (hs.map T.bl) (i : Int) = some (.bl b) := a2e (by rw [List.getElem?_map, hb]; rfl)
   have hly : (lyH ws hs)[i]? = some (if b then l.natAbs else 0) := by unfold lyH; rw [List.getElem?_zipWith, hl, hb]
   have htk : joC m ws.length ++ allJ m 0 ((lyH ws hs).take (i + 1)) = (joC m ws.length ++ allJ m 0 ((lyH ws hs).take i)) ++ layJ m i (if b then l.natAbs else 0) := by
    rw [List.take_add_one, hly]
    show _ ++ allJ m 0 ((lyH ws hs).take i ++ [_]) = _
    rw [a8c, List.length_take, hlyl, show 0 + min i ws.length = i by lia, List.append_assoc]
   have him : m * i ≤ 20 := Nat.le_trans (Nat.mul_le_mul m4 (show i ≤ 5 by lia)) (by decide)
   have hJl9 : (joC m ws.length ++ allJ m 0 ((lyH ws hs).take i)).length ≤ 4 + 6 * 5 := by
    have key : ∀ (ls : List Nat) (k : Nat), (allJ m k ls).length ≤ 6 * ls.length := by
     intro ls
     induction ls with
     | nil => intro k; exact Nat.le_refl _
     | cons y ls ih =>
       intro k
       have h1 := ih (k + 1)
       have h2 : (layJ m k y).length ≤ 6 := by
        unfold layJ
        rw [List.length_append, List.length_map]
        have := List.length_filter_le (fun p => !(y != 0 && (p == y - 1 || p == y))) (List.range m)
        rw [List.length_range] at this
        split
        ·rw [List.length_nil]; lia
        ·rw [List.length_cons, List.length_cons, List.length_nil]; lia
       show (layJ m k y ++ allJ m (k + 1) ls).length ≤ _
       rw [List.length_append, List.length_cons]; lia
    have h1 := key ((lyH ws hs).take i) 0
    rw [List.length_take] at h1
    rw [List.length_append]
    unfold joC
    rw [List.length_map, List.length_range]; lia
   generalize joC m ws.length ++ allJ m 0 ((lyH ws hs).take i) = J at *
   rw [hB]; clear hB
   refine a0e fun K5 hK5 => ?_
   walk_at "rd"
   refine ⟨.inl ⟨by lia, by lia⟩, ?_⟩
   rw [show (m : Int) * (i : Int) = ((m * i : Nat) : Int) by lia, hK5]; clear hK5
   refine a0e fun K6 hK6 => ?_
   walk_at "rd"
   rw [aw]
   dsimp only
   obtain ⟨t, ht⟩ : ∃ t, l.natAbs = t + 1 := ⟨l.natAbs - 1, by lia⟩
   rw [show ((l.natAbs : Nat) : Int) - 1 = (t : Int) by lia, hK6]; clear hK6
   refine a0e fun K7 hK7 => ?_
   refine a0K fun B2 hB2 => ?_
   unfold a2g
   walk_at "rd"
   refine ⟨by lia, by lia, fun j ρ M2 => (∃ (x9 x10 x11 x12 x13 : Option T), ρ = [some (T.int (m : Nat)), some (T.tup (ws.map T.int)), some (T.adr a), some (T.int ((ws.length + 1 : Nat) : Int)), some (T.adr p), some (T.adr q), some (T.int (i : Nat)), some (T.int ((m * i : Nat) : Int)), some (T.int (t : Nat)), x9, x10, x11, x12, x13]) ∧ M2 q = some (.lst ((J ++ (((List.range j).filter fun p => !(b && (p == t || p == t + 1))).map fun p => (m * i + p, m * i + m + p))).map jT)) ∧ M2 p = some (.lst (natT (List.range (m * (ws.length + 1))))) ∧ M2 a = some (.lst (hs.map .bl)) ∧ Sub M M2, ⟨⟨_, _, _, _, _, rfl⟩, ?_, hMp, ha, hS⟩, fun _ _ _ _ => trivial, ?_, ?_⟩
   ·show M' q = some (.lst ((J ++ []).map jT))
    rw [List.append_nil]; exact hMq
   ·rintro j x ρ M2 hx ⟨⟨x9, x10, x11, x12, x13, rfl⟩, hMq, hMp, ha, hS⟩
    obtain ⟨hj, rfl⟩ := a0P hx
    have hrs : (List.range (j + 1)).filter (fun p => !(b && (p == t || p == t + 1))) = (List.range j).filter (fun p => !(b && (p == t || p == t + 1))) ++ if !(b && (j == t || j == t + 1)) then [j] else [] := by
     rw [List.range_succ, List.filter_append, List.filter_cons, List.filter_nil]
    have hJl : ((List.range j).filter fun p => !(b && (p == t || p == t + 1))).length ≤ 4 := by
     have := List.length_filter_le (fun p => !(b && (p == t || p == t + 1))) (List.range j)
     rw [List.length_range] at this
     lia
    rw [hB2]; clear hB2
    walk_at "rd"
    rw [hrs, List.map_append]
    generalize (List.range j).filter (fun p => !(b && (p == t || p == t + 1))) = F at hMq hJl ⊢
    have ein : inT (T.int (j : Nat)) [T.int (t : Nat), T.int ((t : Nat) + 1)] = (j == t || j == t + 1) := by
     unfold inT
     rw [List.any_cons, List.any_cons, List.any_nil, Bool.or_false, a3D, a3D]
     congr 1
     ·by_cases c : j = t
      ·rw [c, decide_eq_true rfl, beq_self_eq_true]
      ·rw [decide_eq_false (by lia), beq_eq_false_iff_ne.mpr c]
     ·by_cases c : j = t + 1
      ·rw [c, decide_eq_true (by lia), beq_self_eq_true]
      ·rw [decide_eq_false (by lia), beq_eq_false_iff_ne.mpr c]
    refine ⟨by decide, fun p1 hp1 => ⟨rfl, rfl, ?_⟩⟩
    rw [ein]
    have hX := Sub.new hp1 (o := MO.lst [T.int (t : Nat), T.int ((t : Nat) + 1)])
    have hMq3 := hX _ _ hMq
    have hMp3 := hX _ _ hMp
    have ha3 := hX _ _ ha
    have hS3 := hS.trans hX
    generalize updM M2 p1 (MO.lst [T.int (t : Nat), T.int ((t : Nat) + 1)]) = M3 at hMq3 hMp3 ha3 hS3 ⊢
    have hsz : ((J ++ F.map fun p => (m * i + p, m * i + m + p)).map jT).length < 10000 := by
     rw [List.length_map, List.length_append, List.length_map]; lia
    rw [hMq3, ha3]
    dsimp only
    rw [ab]
    dsimp only
    have eap : (J ++ F.map fun p => (m * i + p, m * i + m + p)).map jT ++ [T.tup [T.int (((m * i : Nat) : Int) + (j : Nat)), T.int (((m * i : Nat) : Int) + (m : Nat) + (j : Nat))]] = J.map jT ++ ((F ++ [j]).map fun p => (m * i + p, m * i + m + p)).map jT := by
     rw [List.map_append, List.map_append (l₁ := F), List.map_append (f := jT), List.append_assoc]
     congr 2
    have hzl := a0C hsz
    refine ite2 (fun c => ?_) (fun c => ite2 (fun c2 => ?_) (fun c2 => ?_))
    ·rw [c, Bool.and_false]
     exact ⟨trivial, by decide, hzl, ⟨_, _, _, _, _, rfl⟩, by rw [eap]; rfl, by rw [a0o hpq]; exact hMp3, by rw [a0o haq]; exact ha3, hS3.updF hq0⟩
    ·rw [c2, Bool.false_and]
     exact ⟨trivial, by decide, hzl, ⟨_, _, _, _, _, rfl⟩, by rw [eap]; rfl, by rw [a0o hpq]; exact hMp3, by rw [a0o haq]; exact ha3, hS3.updF hq0⟩
    ·rw [Bool.of_not_eq_false c2, Bool.of_not_eq_false c]
     rw [if_neg (by decide), List.append_nil, ← List.map_append]
     exact ⟨⟨_, _, _, _, _, rfl⟩, rfl, hMp3, rfl, hS3⟩
   ·rintro ρ M2 ⟨⟨x9, x10, x11, x12, x13, rfl⟩, hMq, hMp, ha, hS⟩
    rw [a0t, show ((m : Nat) : Int).toNat = m by lia] at hMq
    rw [hK7]; clear hK7
    walk_at "rd"
    rw [ha]
    dsimp only
    rw [ab]
    dsimp only
    rw [hMq]
    dsimp only
    rw [htk]
    have hFl : ((List.range m).filter fun p => !(b && (p == t || p == t + 1))).length ≤ 4 := by
     have := List.length_filter_le (fun p => !(b && (p == t || p == t + 1))) (List.range m)
     rw [List.length_range] at this
     lia
    have elj : layJ m i (if b = true then l.natAbs else 0) = (((List.range m).filter fun p => !(b && (p == t || p == t + 1))).map fun p => (m * i + p, m * i + m + p)) ++ if b = true then [(m * i + t, m * i + t + 1), (m * i + m + t, m * i + m + t + 1)] else [] := by
     cases b with
     | true => rw [if_pos rfl, if_pos rfl, ht]; rfl
     | false => rw [if_neg (by decide), if_neg (by decide)]; rfl
    rw [elj]
    have hz1 : ((J ++ ((List.range m).filter fun p => !(b && (p == t || p == t + 1))).map fun p => (m * i + p, m * i + m + p)).map jT).length + 1 < 10000 := by
     rw [List.length_map, List.length_append, List.length_map]; lia
    generalize ((List.range m).filter fun p => !(b && (p == t || p == t + 1))).map (fun p => (m * i + p, m * i + m + p)) = F at hMq hz1 ⊢
    refine ite2 (fun c => ?_) (fun c => ?_)
    ·rw [if_pos c]
     refine ⟨trivial, by decide, a0C (Nat.lt_of_succ_lt hz1), by decide, a0C hz1, ⟨_, _, _, _, _, _, _, _, rfl⟩, ?_, by rw [a0o hpq]; exact hMp, by rw [a0o haq]; exact ha, hS.updF hq0⟩
     congr 2
     rw [← List.append_assoc J F, List.map_append (l₁ := J ++ F), List.append_assoc]
     congr 1
    ·rw [if_neg c, List.append_nil]
     exact ⟨⟨_, _, _, _, _, _, _, _, rfl⟩, rfl, hMp, rfl, hS⟩
  ·rintro ρ M' ⟨⟨x6, x7, x8, x9, x10, x11, x12, x13, rfl⟩, hMq, hMp, ha, hS⟩
   rw [a0t] at hMq
   rw [show (((ws.length : Nat) : Int)).toNat = ws.length by lia, List.take_of_length_le (by rw [hlyl]; exact Nat.le_refl _)] at hMq
   have elw := b5r m (lyH ws hs)
   rw [hlyl] at elw
   have hly : ∀ y ∈ lyH ws hs, y < m := fun y hy => by
    obtain ⟨u, hu, e⟩ := List.mem_iff_getElem.mp hy
    unfold lyH at hu e
    rw [List.length_zipWith] at hu
    rw [List.getElem_zipWith] at e
    have := (hlet ws[u] (List.getElem_mem _)).2
    split at e <;> lia
   obtain ⟨aj1, aj2⟩ := b2D (n := m) (lyH ws hs) 0 hly
   rw [hlyl] at aj1 aj2
   have hin : ∀ j ∈ joC m ws.length ++ allJ m 0 (lyH ws hs), j.1 < m * (ws.length + 1) ∧ j.2 < m * (ws.length + 1) := fun j hj => by
    rcases List.mem_append.mp hj with z | z
    ·unfold joC at z
     obtain ⟨u, hu, rfl⟩ := List.mem_map.mp z
     have := List.mem_range.mp hu
     rw [Nat.mul_add, Nat.mul_one]
     exact ⟨by dsimp only; lia, by dsimp only; lia⟩
    ·have := aj1 j z
     rw [Nat.zero_add] at this
     exact this
   have hJl : (joC m ws.length ++ allJ m 0 (lyH ws hs)).length < 10000 := by
    have := Nat.mul_le_mul (show m + 2 ≤ 6 by lia) w5
    rw [List.length_append]
    unfold joC
    rw [List.length_map, List.length_range]
    lia
   clear aj1 aj2 hly
   generalize joC m ws.length ++ allJ m 0 (lyH ws hs) = J at *
   rw [hK4]; clear hK4
   refine a0e fun K5 hK5 => ?_
   refine a0K fun B hB => ?_
   unfold a2g
   walk_at "rd"
   rw [hMq]
   dsimp only
   have hml : ∀ (L : List (Nat × Nat)) (mk : List Nat), (L.foldl mkJ mk).length = mk.length := fun L => by
    induction L with
    | nil => intro mk; rfl
    | cons y L ih => intro mk; rw [List.foldl_cons, ih]; exact List.length_map ..
   refine ⟨fun i ρ M' => (∃ (r : Addr) (x6 x7 x8 x9 x10 x11 x12 x13 : Option T), ρ = [some (T.int (m : Nat)), some (T.tup (ws.map T.int)), some (T.adr a), some (T.int ((ws.length + 1 : Nat) : Int)), some (T.adr r), some (T.adr q), x6, x7, x8, x9, x10, x11, x12, x13] ∧ M' r = some (.lst (natT ((J.take i).foldl mkJ (List.range (m * (ws.length + 1))))))) ∧ M' q = some (.lst (J.map jT)) ∧ Sub M M', ⟨⟨p, _, _, _, _, _, _, _, _, rfl, hMp⟩, hMq, hS⟩, ?_, ?_, ?_⟩
   ·rintro i ρ M' ⟨_, h1, _⟩
    exact h1
   ·rintro i x ρ M' hx ⟨⟨r, x6, x7, x8, x9, x10, x11, x12, x13, rfl, hMr⟩, hMq, hS⟩
    obtain ⟨⟨j1, j2⟩, hj, rfl⟩ : ∃ j, J[i]? = some j ∧ jT j = x := by
     rw [List.getElem?_map] at hx
     exact Option.map_eq_some_iff.mp hx
    obtain ⟨b1, b2⟩ := hin _ (List.mem_of_getElem? hj)
    dsimp only at b1 b2
    have ht : (J.take (i + 1)).foldl mkJ (List.range (m * (ws.length + 1))) = mkJ ((J.take i).foldl mkJ (List.range (m * (ws.length + 1)))) (j1, j2) := by
     rw [List.take_add_one, hj, List.foldl_append]; rfl
    have hul := hml (J.take i) (List.range (m * (ws.length + 1)))
    rw [List.length_range] at hul
    generalize (J.take i).foldl mkJ (List.range (m * (ws.length + 1))) = u at hMr ht hul
    unfold jT
    dsimp only
    refine ⟨rfl, rfl, ?_⟩
    rw [hB]; clear hB
    refine a0e fun K6 hK6 => ?_
    walk_at "rd"
    rw [hMr]
    dsimp only
    rw [a3m (by lia : j1 < u.length), a3m (by lia : j2 < u.length)]
    dsimp only
    have emin : (if ((u.getD j2 0 : Nat) : Int) < (u.getD j1 0 : Nat) then ((u.getD j2 0 : Nat) : Int) else (u.getD j1 0 : Nat)) = ((min (u.getD j1 0) (u.getD j2 0) : Nat) : Int) := by
     split <;> lia
    rw [emin, hK6]; clear hK6
    refine a0e fun K7 hK7 => ?_
    walk_at "rd"
    rw [hMr]
    dsimp only
    rw [a3m (by lia : j1 < u.length), a3m (by lia : j2 < u.length)]
    dsimp only
    have emax : (if ((u.getD j2 0 : Nat) : Int) > (u.getD j1 0 : Nat) then ((u.getD j2 0 : Nat) : Int) else (u.getD j1 0 : Nat)) = ((max (u.getD j1 0) (u.getD j2 0) : Nat) : Int) := by
     split <;> lia
    rw [emax, hK7]; clear hK7
    walk_at "rd"
    rw [hMr]
    dsimp only
    refine ⟨fun k ys M2 => ys = natT ((mkJ u (j1, j2)).take k) ∧ Sub M' M2, ⟨rfl, Sub.refl⟩, ?_, by rw [a1F]; exact a0C (by lia), ?_, ?_⟩
    ·rintro k ys M2 ⟨_, h2⟩
     exact h2 _ _ hMr
    ·rintro k x ys M2 hx ⟨rfl, h2⟩
     obtain ⟨z, hz, rfl⟩ := a6D hx
     have ez : (mkJ u (j1, j2))[k]? = some (if z = max (u.getD j1 0) (u.getD j2 0) then min (u.getD j1 0) (u.getD j2 0) else z) := by unfold mkJ; rw [List.getElem?_map, hz]; rfl
     have et : (mkJ u (j1, j2)).take (k + 1) = (mkJ u (j1, j2)).take k ++ [if z = max (u.getD j1 0) (u.getD j2 0) then min (u.getD j1 0) (u.getD j2 0) else z] := by rw [List.take_add_one, ez]; rfl
     refine ⟨by decide, fun p2 hp2 => ⟨by rw [a2B], by rw [a2P]; decide, ?_⟩⟩
     have e0 : atI [T.int (z : Nat), T.int ((min (u.getD j1 0) (u.getD j2 0) : Nat) : Int)] (if eqT (T.int (z : Nat)) (T.int ((max (u.getD j1 0) (u.getD j2 0) : Nat) : Int)) = true then 1 else 0) = some (T.int ((if z = max (u.getD j1 0) (u.getD j2 0) then min (u.getD j1 0) (u.getD j2 0) else z : Nat) : Int)) := by
      rw [a3D]
      by_cases c : z = max (u.getD j1 0) (u.getD j2 0)
      ·rw [if_pos c, if_pos (decide_eq_true (by lia))]; rfl
      ·rw [if_neg c, if_neg (by rw [decide_eq_true_eq]; lia)]; rfl
     rw [e0]
     dsimp only
     refine ⟨?_, h2.newr hp2⟩
     rw [et, ← a7p]
    ·rintro ys M2 ⟨rfl, h2⟩ q2 hq2
     rw [a1F, List.take_of_length_le (by unfold mkJ; rw [List.length_map]; exact Nat.le_refl _)]
     have hX := h2.newr hq2 (o := MO.lst (natT (mkJ u (j1, j2))))
     refine ⟨⟨q2, _, _, _, _, _, _, _, _, rfl, by rw [ht]; exact a0d⟩, hX _ _ hMq, hS.trans hX⟩
   ·rintro ρ M' ⟨⟨r, x6, x7, x8, x9, x10, x11, x12, x13, rfl, hMr⟩, hMq, hS⟩
    rw [List.length_map, List.take_length, ← elw] at hMr
    rw [hK5]; clear hK5
    walk_at "rd"
    rw [hMr]
    dsimp only
    have hwl : (lwM m (lyH ws hs)).length = m * (ws.length + 1) := by rw [elw, hml, List.length_range]
    refine ⟨nI (lwM m (lyH ws hs)), rfl, by unfold nI; rw [List.length_map, hwl]; lia, ?_⟩
    rw [b7K]
    exact a0j (h M' hS)
 ·exact h.elim
theorem a9g (num : Nat) (l : Int) : ∀ (w : List Int) (k : Nat), pwF k (w ++ [l]) num = pwF k w num + if bitN num (k + w.length) then -sgI l else sgI l
 | [], k => by
   show (if bitN num k then -sgI l else sgI l) + 0 = 0 + if bitN num (k + 0) then -sgI l else sgI l
   rw [Nat.add_zero]; lia
 | x :: w, k => by
   show (if bitN num k then -sgI x else sgI x) + pwF (k + 1) (w ++ [l]) num = (if bitN num k then -sgI x else sgI x) + pwF (k + 1) w num + _
   rw [a9g num l w, List.length_cons, show k + 1 + w.length = k + (w.length + 1) by lia]
   lia
theorem b4F {a k : Nat} {m : Po} (h : ∀ x ∈ m, x.1 ∈ stpE a) : ∀ x ∈ m, x.1 ∈ stpE (a + 2 * k) := fun x hx => by
 obtain ⟨h1, h2⟩ := b0O h x hx
 exact a3n ⟨by lia, by lia⟩
noncomputable def a3i : Sp3 := fun ts M Q => match ts with
 | [.int n, .tup w] => ∃ ws : List Int, w = ws.map .int ∧ PlOK n ws ∧ n ≤ 4 ∧ ws.length ≤ 5 ∧ ∀ M', Sub M M' → Q (poT (stS n.toNat ws).1) M'
 | _ => False
theorem a8x {P : Program} {w : World} {K : PySem.W.Frag} {mg : Str → Option Value} {base : Heap} {f : Addr} {fd : FuncData} {n : Nat}  (F : Fun K "_law_sum" "_law_sum" a1N f fd) (hm : mg "_law_sum" = some (.ref f)) (hb : a0Y K fd ["strands", "word"] []) (Z : Zs K mg) (D__law_loops : Df P w K mg base n "_law_loops" ["strands", "word", "hooks"] a2m) (D__law_times : Df P w K mg base n "_law_times" ["one", "other"] a2j) (D__law_put : Df P w K mg base n "_law_put" ["found", "power", "count"] a2z) (D__law_told : Df P w K mg base n "_law_told" ["found"] a2L) : Df P w K mg base (n + 1) "_law_sum" ["strands", "word"] a3i := by
 refine F.dfn hm hb a0H (by intro ts M Q h; unfold a3i at h; first | (split at h <;> first | rfl | exact h.elim) | (obtain ⟨_, _, _, _, _, rfl, _⟩ := h; rfl) | (obtain ⟨_, _, _, _, rfl, _⟩ := h; rfl) | (obtain ⟨_, _, _, rfl, _⟩ := h; rfl) | (obtain ⟨_, _, rfl, _⟩ := h; rfl) | (obtain ⟨_, rfl, _⟩ := h; rfl)) ⟨_, fun cdv A outer s H E hr => (@a0c _ _ _ _ _ (@a0D _ _ _ _ 2 _ _ a9D a0H.nd (by rfl) (by walk_at "2") (by rfl) (by walk_at "4")) (@a0c _ _ _ _ _ (@a2H _ _ _ _ _ _ _ _ PassesOwn.never rfl (@a1U _ _ _ _ _ _ Z.b_range (@a0a _ _ _ _ _ (@a0i _ _ _ _ _ _ _ _ b5m a0g (@a0B _ _ _ _ _ _ _ _ _ a0E Z.b_len PySem.boot_len (@a0a _ _ _ _ _ (@hv _ 1 _ _ (by rfl) (by walk_at "3") (by decide) (by decide)) a0f (by rfl)) (by rfl) (by decide) (by decide) (by rfl) (by rfl))) a0f (by rfl)) (by rfl) (by rfl)) (@a0J _ _ 3 _ a0H.nd (by rfl) (by walk_at "2") (by walk_at "4")) (@a0c _ _ _ _ _ (@a9e _ _ _ _ _ _ _ _ _ _ _ _ _ _ 4 _ _ _ rfl (@a1U _ _ _ _ _ _ Z.b_range (@a0a _ _ _ _ _ (@a0B _ _ _ _ _ _ _ _ _ a0E Z.b_len PySem.boot_len (@a0a _ _ _ _ _ (@hv _ 1 _ _ (by rfl) (by walk_at "3") (by decide) (by decide)) a0f (by rfl)) (by rfl) (by decide) (by decide) (by rfl) (by rfl)) a0f (by rfl)) (by rfl) (by rfl)) (@a1H _ (a0b a1N) _ (["strands", "word", "found", "number", "hooks", "power", "k", "worth", "loop", "more"]) (["k", "number"]) ([none, some 3]) (by decide +kernel) rfl rfl) a4f (fun _ _ _ _ _ => @a2b _ _ 0 _ (show List.Nodup (["k", "number"] : List Str) by decide +kernel) rfl (Or.inl rfl) (Or.inr rfl)) (fun _ _ _ _ _ => a4E) (fun _ _ _ _ _ => (@b0u _ _ _ _ _ _ _ _ (@a5e _ hr.units) (@a0i _ _ _ _ _ _ _ _ a2S (@a0i _ _ _ _ _ _ _ _ b5l (@hv _ 1 _ _ (by rfl) (by walk_at "3") (by decide) (by decide)) (@hv _ 0 _ _ (by rfl) (by walk_at "3") (by decide) (by decide))) a0g) a0g (@a1C _ _ (by decide) (by decide)))) a0H.nd (by rfl) (by walk_at "2") (by rfl) (by intro _; rfl) (by walk_at "4")) (@a0c _ _ _ _ _ (@a0D _ _ _ _ 5 _ _ a0g a0H.nd (by rfl) (by walk_at "2") (by rfl) (by walk_at "4")) (@a0c _ _ _ _ _ (@a2H _ _ _ _ _ _ _ _ PassesOwn.never rfl (@a1U _ _ _ _ _ _ Z.b_range (@a0a _ _ _ _ _ (@a0B _ _ _ _ _ _ _ _ _ a0E Z.b_len PySem.boot_len (@a0a _ _ _ _ _ (@hv _ 1 _ _ (by rfl) (by walk_at "3") (by decide) (by decide)) a0f (by rfl)) (by rfl) (by decide) (by decide) (by rfl) (by rfl)) a0f (by rfl)) (by rfl) (by rfl)) (@a0J _ _ 6 _ a0H.nd (by rfl) (by walk_at "2") (by walk_at "4")) (@a0h _ _ _ (@a0D _ _ _ _ 5 _ _ (@a0i _ _ _ _ _ _ _ _ a0r (@hv _ 5 _ _ (by rfl) (by walk_at "3") (by decide) (by decide)) (@h_ix _ _ _ _ _ _ (@a5F _ _ _ _ (@a0a _ _ _ _ _ (@h_un _ _ _ _ _ _ a2w a0g) (@a0a _ _ _ _ _ a0g a0f (by rfl)) (by rfl))) (@a3q _ _ _ _ _ _ _ _ _ a5u Z.b_int PyProof.Rows.boot_int (@a0a _ _ _ _ _ (@b0u _ _ _ _ _ _ _ _ (@b1u _ hr.units) (@h_ix _ _ _ _ _ _ (@hv _ 4 _ _ (by rfl) (by walk_at "3") (by decide) (by decide)) (@hv _ 6 _ _ (by rfl) (by walk_at "3") (by decide) (by decide)) (by intro _ _; rfl)) (@b0u _ _ _ _ _ _ _ _ a5O (@h_ix _ _ _ _ _ _ (@hv _ 1 _ _ (by rfl) (by walk_at "3") (by decide) (by decide)) (@hv _ 6 _ _ (by rfl) (by walk_at "3") (by decide) (by decide)) (by intro _ _; rfl)) a0g (@a1C _ _ (by decide) (by decide))) (@a1C _ _ (by decide) (by decide))) a0f (by rfl)) (by rfl) (by decide) (by decide) (by rfl) (by rfl)) (by intro _ _; rfl))) a0H.nd (by rfl) (by walk_at "2") (by rfl) (by walk_at "4"))) (by intro _; rfl)) (@a0c _ _ _ _ _ (@a0D _ _ _ _ 7 _ _ (@h_wk _ _ _ (@b7D _ _ _ _ _ (@a6J _ _ _ _ _ _ _ _ (@hv _ 5 _ _ (by rfl) (by walk_at "3") (by decide) (by decide)) a0g b1V) (by rfl) (by rfl) (by exact fun z => nomatch z) (by decide))) a0H.nd (by rfl) (by walk_at "2") (by rfl) (by walk_at "4")) (@a0c _ _ _ _ _ (@a2H _ _ _ _ _ _ _ _ PassesOwn.never rfl (@a1U _ _ _ _ _ _ Z.b_range (@a0a _ _ _ _ _ (@a0i _ _ _ _ _ _ _ _ a1E (@a0m _ _ _ _ _ _ _ _ _ _ D__law_loops hr (@a0a _ _ _ _ _ (@hv _ 0 _ _ (by rfl) (by walk_at "3") (by decide) (by decide)) (@a0a _ _ _ _ _ (@hv _ 1 _ _ (by rfl) (by walk_at "3") (by decide) (by decide)) (@a0a _ _ _ _ _ (@hv _ 4 _ _ (by rfl) (by walk_at "3") (by decide) (by decide)) a0f (by rfl)) (by rfl)) (by rfl)) (by rfl) (by decide) (by rfl) (by rfl)) a0g) a0f (by rfl)) (by rfl) (by rfl)) (@a0J _ _ 8 _ a0H.nd (by rfl) (by walk_at "2") (by walk_at "4")) (@a0h _ _ _ (@a0D _ _ _ _ 7 _ _ (@a0m _ _ _ _ _ _ _ _ _ _ D__law_times hr (@a0a _ _ _ _ _ (@hv _ 7 _ _ (by rfl) (by walk_at "3") (by decide) (by decide)) (@a0a _ _ _ _ _ (@h_wk _ _ _ (@b7D _ _ _ _ _ (@a6J _ _ _ _ _ _ _ _ a0g (@h_un _ _ _ _ _ _ a2w a0g) (@a6J _ _ _ _ _ _ _ _ (@h_un _ _ _ _ _ _ a2w a0g) (@h_un _ _ _ _ _ _ a2w a0g) b1V)) (by rfl) (by rfl) (by exact fun z => nomatch z) (by decide))) a0f (by rfl)) (by rfl)) (by rfl) (by decide) (by rfl) (by rfl)) a0H.nd (by rfl) (by walk_at "2") (by rfl) (by walk_at "4"))) (by intro _; rfl)) (@a0h _ _ _ (@a2H _ _ _ _ _ _ _ _ PassesOwn.never rfl (@a8J _ _ _ _ (@hv _ 7 _ _ (by rfl) (by walk_at "3") (by decide) (by decide))) (@a0J _ _ 9 _ a0H.nd (by rfl) (by walk_at "2") (by walk_at "4")) (@a0h _ _ _ (@a2U _ _ _ _ (@a0m _ _ _ _ _ _ _ _ _ _ D__law_put hr (@a0a _ _ _ _ _ (@hv _ 2 _ _ (by rfl) (by walk_at "3") (by decide) (by decide)) (@a0a _ _ _ _ _ (@hv _ 9 _ _ (by rfl) (by walk_at "3") (by decide) (by decide)) (@a0a _ _ _ _ _ (@b3B _ _ _ _ _ _ hr.units (@hv _ 7 _ _ (by rfl) (by walk_at "3") (by decide) (by decide)) (@hv _ 9 _ _ (by rfl) (by walk_at "3") (by decide) (by decide)) (by intro _ _; rfl)) a0f (by rfl)) (by rfl)) (by rfl)) (by rfl) (by decide) (by rfl) (by rfl)) (by rfl))) (by intro _; rfl)))))))) (by intro _; rfl)) (@a0h _ _ _ (@a1a _ _ _ _ (@a0m _ _ _ _ _ _ _ _ _ _ D__law_told hr (@a0a _ _ _ _ _ (@h_wk _ _ _ (@hv _ 2 _ _ (by rfl) (by walk_at "3") (by decide) (by decide))) a0f (by rfl)) (by rfl) (by decide) (by rfl) (by rfl)))))), fun ts M Q h => ?_⟩
 unfold a3i at h
 split at h
 ·rename_i n w
  obtain ⟨ws, rfl, ok, n4, w5, h⟩ := h
  obtain ⟨n1, n6, hl, hw⟩ := id ok
  obtain ⟨hm, hst⟩ := a4U ok
  have hlet := b5s hw
  refine a0e fun K1 hK1 => ?_
  walk_at "rd"
  intro d hd
  have hMd : (updM M d (MO.dk [])) d = some (.dk (dkI [])) := a0d
  have hS := Sub.new hd (o := MO.dk [])
  generalize updM M d (MO.dk []) = M1 at hMd hS ⊢
  rw [hK1]; clear hK1
  refine a0e fun K2 hK2 => ?_
  refine a0K fun B hB => ?_
  unfold a2g
  walk_at "rd"
  have hpw : (2 : Nat) ^ ws.length ≤ 32 := Nat.le_trans (Nat.pow_le_pow_right (by decide) w5) (by decide)
  have e1 : (1 : Int) * 2 ^ (ws.length : Nat) = ((2 ^ ws.length : Nat) : Int) := by rw [Int.one_mul]; exact (Int.natCast_pow 2 ws.length).symm
  have et : (2 : Int) ^ (((ws.length : Nat) : Int)).toNat = ((2 ^ ws.length : Nat) : Int) := by
   rw [show (((ws.length : Nat) : Int)).toNat = ws.length by lia]
   exact (Int.natCast_pow 2 ws.length).symm
  clear e1
  rw [et, Int.one_mul]
  have hsl := a8i ws
  refine ⟨⟨by lia, by lia, by decide⟩, by lia, by lia, fun i ρ M' => (∃ (x3 x4 x5 x6 x7 x8 x9 : Option T) (m : Po), ρ = [some (T.int n), some (T.tup (ws.map T.int)), some (T.adr d), x3, x4, x5, x6, x7, x8, x9] ∧ M' d = some (.dk (dkI m)) ∧ Cl m ∧ (∀ x ∈ m, x.1 ∈ stpE (ws.length + 2 * (n.toNat + ws.length))) ∧ toL m = VS n.toNat trF ((stsL ws).take i)) ∧ Sub M M', ⟨⟨_, _, _, _, _, _, _, [], rfl, hMd, ⟨.nil, fun _ z => absurd z List.not_mem_nil⟩, fun _ z => absurd z List.not_mem_nil, by rw [List.take_zero]; exact b2J⟩, hS⟩, fun _ _ _ _ => trivial, ?_, ?_⟩
  ·rintro i x ρ M' hx ⟨⟨x3, x4, x5, x6, x7, x8, x9, m, rfl, hMd, hcl, hL, hto⟩, hS⟩
   obtain ⟨hi, rfl⟩ := a0P hx
   have hi32 : i < 2 ^ ws.length := by lia
   have hnum := b4C (w := ws) (num := i) (fun l hl => by have := (hlet l hl).1; lia) hi32
   obtain ⟨a1, a2, a3, a4⟩ := hst _ (List.mem_of_getElem? hnum)
   dsimp only at a1 a2 a3 a4
   rw [hB]; clear hB
   refine a0e fun K3 hK3 => ?_
   walk_at "rd"
   refine ⟨by lia, by lia, fun k ys M2 => ys = ((List.range k).map (bitN i)).map T.bl ∧ M2 = M', ⟨rfl, rfl⟩, fun _ _ _ _ => trivial, by rw [a0t]; exact a0C (by lia), ?_, ?_⟩
   ·rintro k y ys M2 hy ⟨rfl, rfl⟩
    obtain ⟨hk, rfl⟩ := a0P hy
    dsimp only
    refine ⟨by lia, by decide, ?_, rfl⟩
    have eb : decide ((i : Int) / 2 ^ ((k : Nat) : Int).toNat % 2 = 1) = bitN i k := by
     have e2 : (2 : Int) ^ ((k : Nat) : Int).toNat = ((2 ^ k : Nat) : Int) := by
      rw [show ((k : Nat) : Int).toNat = k by lia]
      exact (Int.natCast_pow 2 k).symm
     rw [e2]
     unfold bitN
     have e3 : (i : Int) / ((2 ^ k : Nat) : Int) = ((i / 2 ^ k : Nat) : Int) := (Int.natCast_ediv i (2 ^ k)).symm
     rw [e3]
     generalize i / 2 ^ k = t
     by_cases c : t % 2 = 1
     ·rw [decide_eq_true (by lia), c]; rfl
     ·rw [decide_eq_false (by lia), beq_eq_false_iff_ne.mpr c]
    rw [eb, List.range_succ, List.map_append (f := bitN i), List.map_append (f := T.bl)]; rfl
   rintro ys M2 ⟨rfl, rfl⟩ q hq
   rw [a0t, show (((ws.length : Nat) : Int)).toNat = ws.length by lia]
   have hX := Sub.new hq (o := MO.lst (((List.range ws.length).map (bitN i)).map T.bl))
   have hMq : (updM M2 q (MO.lst (((List.range ws.length).map (bitN i)).map T.bl))) q = some (MO.lst (((List.range ws.length).map (bitN i)).map T.bl)) := a0d
   have hMd2 := hX _ _ hMd
   have hS2 := hS.trans hX
   have hqd : q ≠ d := fun z => by rw [z, hMd] at hq; cases hq
   generalize updM M2 q (MO.lst (((List.range ws.length).map (bitN i)).map T.bl)) = M3 at hMq hMd2 hS2 ⊢
   clear hX hq hMd hS
   rw [hK3]; clear hK3
   refine a0e fun K4 hK4 => ?_
   walk_at "rd"
   rw [hK4]; clear hK4
   refine a0e fun K5 hK5 => ?_
   refine a0K fun B2 hB2 => ?_
   unfold a2g
   walk_at "rd"
   refine ⟨by lia, by lia, fun k ρ M' => (∃ (x6 x7 x8 x9 : Option T), ρ = [some (T.int n), some (T.tup (ws.map T.int)), some (T.adr d), some (T.int (i : Nat)), some (T.adr q), some (T.int (pwF 0 (ws.take k) i)), x6, x7, x8, x9]) ∧ M' q = some (MO.lst (((List.range ws.length).map (bitN i)).map T.bl)) ∧ M' d = some (.dk (dkI m)) ∧ Sub M M', ⟨⟨_, _, _, _, rfl⟩, hMq, hMd2, hS2⟩, fun _ _ _ _ => trivial, ?_, ?_⟩
   ·rintro k x ρ M' hx ⟨⟨x6, x7, x8, x9, rfl⟩, hMq, hMd, hS⟩
    obtain ⟨hk, rfl⟩ := a0P hx
    have hkw : k < ws.length := by lia
    obtain ⟨l, hl⟩ : ∃ l, ws[k]? = some l := ⟨_, List.getElem?_eq_getElem hkw⟩
    have hl0 := (hlet l (List.mem_of_getElem? hl)).1
    have aw : atI (ws.map T.int) (k : Int) = some (.int l) := a2e (by rw [List.getElem?_map, hl]; rfl)
    have ab : atI (((List.range ws.length).map (bitN i)).map T.bl) (k : Int) = some (.bl (bitN i k)) := a2e (by rw [List.getElem?_map, List.getElem?_map, List.getElem?_range hkw]; rfl)
    have ept : pwF 0 (ws.take (k + 1)) i = pwF 0 (ws.take k) i + if bitN i k then -sgI l else sgI l := by
     rw [List.take_add_one, hl]
     show pwF 0 (ws.take k ++ [l]) i = _
     rw [a9g, List.length_take, show 0 + min k ws.length = k by lia]
    rw [hB2]; clear hB2
    walk_at "rd"
    refine ⟨by decide, fun p hp => ?_⟩
    have hX := Sub.new hp (o := MO.lst [T.int (-1), T.int 1])
    have hMq3 := hX _ _ hMq
    have hMd3 := hX _ _ hMd
    have hS3 := hS.trans hX
    generalize updM M' p (MO.lst [T.int (-1), T.int 1]) = M4 at hMq3 hMd3 hS3 ⊢
    rw [hMq3]
    dsimp only
    rw [ab, aw]
    dsimp only
    refine ⟨by rw [a9k], by rw [b2i]; decide, ?_⟩
    have e0 : atI [T.int (-1), T.int 1] (if eqT (T.bl (bitN i k)) (T.bl (decide (0 < l))) = false then 1 else 0) = some (T.int (if bitN i k then -sgI l else sgI l)) := by
     unfold sgI
     cases hbk : bitN i k with
     | true =>
       by_cases c : 0 < l
       ·rw [decide_eq_true c, if_neg (by decide), if_pos rfl, if_neg (by lia)]; rfl
       ·rw [decide_eq_false c, if_pos (by decide), if_pos rfl, if_pos (by lia)]; rfl
     | false =>
       by_cases c : 0 < l
       ·rw [decide_eq_true c, if_pos (by decide), if_neg (by decide), if_neg (by lia)]; rfl
       ·rw [decide_eq_false c, if_neg (by decide), if_neg (by decide), if_pos (by lia)]; rfl
    rw [e0]
    dsimp only
    rw [ept]
    exact ⟨⟨_, _, _, _, rfl⟩, rfl, hMd3, hS3⟩
   ·rintro ρ M' ⟨⟨x6, x7, x8, x9, rfl⟩, hMq, hMd, hS⟩
    rw [a0t, show (((ws.length : Nat) : Int)).toNat = ws.length by lia, List.take_length]
    rw [hK5]; clear hK5
    refine a0e fun K6 hK6 => ?_
    walk_at "rd"
    intro e he
    refine ⟨dkI [(pwF 0 ws i, 1)], rfl, rfl, List.pairwise_singleton _ _, _, b3N, ?_⟩
    have hX := Sub.new he (o := MO.fk (dkI [(pwF 0 ws i, 1)]))
    have hMe : (updM M' e (MO.fk (dkI [(pwF 0 ws i, 1)]))) e = some (.fk (dkI [(pwF 0 ws i, 1)])) := a0d
    have hMd3 := hX _ _ hMd
    have hMq3 := hX _ _ hMq
    have hS3 := hS.trans hX
    generalize updM M' e (MO.fk (dkI [(pwF 0 ws i, 1)])) = M4 at hMe hMd3 hMq3 hS3 ⊢
    clear hX he hMd hMq hS
    rw [hK6]; clear hK6
    refine a0e fun K7 hK7 => ?_
    refine a0K fun B3 hB3 => ?_
    unfold a2g
    walk_at "rd"
    have elH : lyH ws ((List.range ws.length).map (bitN i)) = lyF 0 ws i := by rw [b7m, List.range_eq_range']
    have hly : ∀ y ∈ lyF 0 ws i, y < n.toNat := by
     have key : ∀ (w : List Int) (k : Nat), (∀ l ∈ w, LetN n.toNat l) → ∀ y ∈ lyF k w i, y < n.toNat := by
      intro w
      induction w with
      | nil => intro k _ y hy; exact absurd hy List.not_mem_nil
      | cons l w ih =>
        intro k hw y hy
        have hl := (hw l (.head _)).2
        rcases List.mem_cons.mp hy with z | z
        ·rw [z]; split <;> lia
        ·exact ih (k + 1) (fun x hx => hw x (.tail _ hx)) y z
     exact key ws 0 hlet
    have elw := b8y (n := n.toNat) hm.1 (by lia) (ls := lyF 0 ws i) (by rw [b1E]; exact w5) hly
    obtain ⟨_, hN⟩ := b1H hm a2 (by lia)
    have r1 := a7r hm hN
    have r2 := a9x hm hN
    have r3 : (hkN' n.toNat ((lyF 0 ws i).filter fun i => i != 0)).1 ≤ 0 + ((lyF 0 ws i).filter fun i => i != 0).length := b5A n.toNat _ (0, plN n.toNat)
    have hVS : VS n.toNat trF ((stsL ws).take (i + 1)) = VS n.toNat trF ((stsL ws).take i) + xL (pwF 0 ws i) * powL dlt (dd (lwM n.toNat (lyF 0 ws i)) - 1) := by
     rw [List.take_add_one, hnum]
     show VS n.toNat trF ((stsL ws).take i ++ [_]) = _
     rw [a5x]
     show _ + (xL (pwF 0 ws i) * FU trF _ + 0) = _
     rw [b7Y hm hN, elw]
     grind
    have hlp1 : 1 ≤ dd (lwM n.toNat (lyF 0 ws i)) := by rw [elw]; omega
    have hlp2 : dd (lwM n.toNat (lyF 0 ws i)) ≤ n.toNat + ws.length := by rw [elw]; omega
    clear r1 r2 r3
    refine ⟨n.toNat, ws, (List.range ws.length).map (bitN i), by lia, rfl, hMq3, hm.1, by lia, w5, by rw [List.length_map, List.length_range], hlet, fun M5 hS5 => ?_⟩
    rw [elH]
    dsimp only
    generalize dd (lwM n.toNat (lyF 0 ws i)) = lp at *
    have hMe5 := hS5 _ _ hMe
    have hMd5 := hS5 _ _ hMd3
    have hS6 := hS3.trans hS5
    clear hMe hMd3 hMq3 hS3 hS5 elH hly elw hN
    refine ⟨by lia, by lia, fun j ρ M' => (∃ (r : Addr) (u : Po) (x6 x8 x9 : Option T), ρ = [some (T.int n), some (T.tup (ws.map T.int)), some (T.adr d), some (T.int (i : Nat)), some (T.adr q), some (T.int (pwF 0 ws i)), x6, some (T.adr r), x8, x9] ∧ M' r = some (.fk (dkI u)) ∧ Cl u ∧ (∀ x ∈ u, x.1 ∈ stpE (ws.length + 2 * j)) ∧ toL u = xL (pwF 0 ws i) * powL dlt j) ∧ M' d = some (.dk (dkI m)) ∧ Sub M M', ⟨⟨e, [(pwF 0 ws i, 1)], _, _, _, rfl, hMe5, ⟨List.pairwise_singleton _ _, fun x hx => by rw [List.mem_singleton.mp hx]; show (1 : Int) ≠ 0; decide⟩, fun x hx => ?_, ?_⟩, hMd5, hS6⟩, fun _ _ _ _ => trivial, ?_, ?_⟩
    ·rw [List.mem_singleton.mp hx]
     exact a3n ⟨by dsimp only; lia, by dsimp only; lia⟩
    ·show xL (pwF 0 ws i) = xL (pwF 0 ws i) * 1
     grind
    ·rintro j x ρ M' hx ⟨⟨r, u, x6, x8, x9, rfl, hMr, hcu, hLu, htu⟩, hMd, hS⟩
     obtain ⟨hj, rfl⟩ := a0P hx
     rw [hB3]; clear hB3
     walk_at "rd"
     intro f hf
     refine ⟨dkI lpL, rfl, rfl, ?_, _, b3N, ?_⟩
     ·rw [a4P]; exact List.pairwise_map.mpr (b4d.1.imp fun h z => h (Sum.inl.inj z))
     have hX := Sub.new hf (o := MO.fk (dkI lpL))
     have hul := b2r hcu hLu
     refine ⟨u, lpL, stpE (ws.length + 2 * j + 2), hX _ _ hMr, a0d, hcu, b4d, by rw [a4k]; lia, fun x hx y hy => a3n ((b0O hLu).sum b7o hx hy), .inr (by unfold Sml; decide), by lia, by decide, fun t u' M6 ht hS7 hMt hcl' hL' hco => ?_⟩
     refine ⟨⟨t, u', _, _, _, rfl, hMt, hcl', hL', ?_⟩, hS7 _ _ (hX _ _ hMd), (hS.trans hX).trans hS7⟩
     rw [b4w hco, b4x, htu]
     show xL (pwF 0 ws i) * powL dlt j * dlt = xL (pwF 0 ws i) * (powL dlt j * dlt)
     grind
    ·rintro ρ M' ⟨⟨r, u, x6, x8, x9, rfl, hMr, hcu, hLu, htu⟩, hMd, hS⟩
     rw [a0t, show (((lp : Nat) : Int) - 1).toNat = lp - 1 by lia] at hLu htu
     have hLu2 : ∀ x ∈ u, x.1 ∈ stpE (ws.length + 2 * (n.toNat + ws.length)) := by
      have := b4F (k := n.toNat + ws.length - (lp - 1)) hLu
      rw [show ws.length + 2 * (lp - 1) + 2 * (n.toNat + ws.length - (lp - 1)) = ws.length + 2 * (n.toNat + ws.length) by lia] at this
      exact this
     have hrd : r ≠ d := fun z => by rw [z, hMd] at hMr; cases hMr
     rw [hK7]; clear hK7
     refine a0K fun B4 hB4 => ?_
     unfold a2g
     walk_at "rd"
     rw [hMr]
     dsimp only
     refine ⟨fun j ρ M2 => (∃ (x6 x8 x9 : Option T), ρ = [some (T.int n), some (T.tup (ws.map T.int)), some (T.adr d), some (T.int (i : Nat)), some (T.adr q), some (T.int (pwF 0 ws i)), x6, some (T.adr r), x8, x9]) ∧ (∃ m2 : Po, M2 d = some (.dk (dkI m2)) ∧ Cl m2 ∧ (∀ x ∈ m2, x.1 ∈ stpE (ws.length + 2 * (n.toNat + ws.length))) ∧ ∀ k, co m2 k = co (m ++ u.take j) k) ∧ M2 r = some (.fk (dkI u)) ∧ Sub M M2, ⟨⟨_, _, _, rfl⟩, ⟨m, hMd, hcl, hL, fun k => by rw [List.take_zero, List.append_nil]⟩, hMr, hS⟩, fun _ _ _ _ => trivial, ?_, ?_⟩
     ·rintro j x ρ M2 hx ⟨⟨x6, x8, x9, rfl⟩, ⟨m2, hm2, hc2, hL2, hco2⟩, hMr, hS⟩
      obtain ⟨⟨y1, y2⟩, hx2, rfl⟩ : ∃ y, u[j]? = some y ∧ T.int y.1 = x := by
       unfold a5C dkI at hx
       rw [List.map_map, List.getElem?_map] at hx
       exact Option.map_eq_some_iff.mp hx
      have hyu := List.mem_of_getElem? hx2
      have hyv := b2s hcu hyu
      dsimp only at hyv ⊢
      have hml2 := b2r hc2 hL2
      rw [hB4]; clear hB4
      walk_at "rd"
      rw [hMr]
      dsimp only
      refine ⟨.inl y1, _, rfl, hyv, ?_⟩
      refine ⟨m2, hm2, hc2, by lia, ?_⟩
      refine ⟨⟨_, _, _, rfl⟩, ⟨putC y1 y2 m2, a0d, hc2.put, a9j (hLu2 _ hyu) hL2, fun k => ?_⟩, by rw [a0o hrd]; exact hMr, hS.updF hd⟩
      have ht : u.take (j + 1) = u.take j ++ [(y1, y2)] := by rw [List.take_add_one, hx2]; rfl
      rw [b2o hc2, hco2, ht, ← List.append_assoc, a0X (m ++ u.take j)]
      show _ = _ + ((if y1 = k then y2 else 0) + 0)
      rw [Int.add_zero]
     ·rintro ρ M2 ⟨⟨x6, x8, x9, rfl⟩, ⟨m2, hm2, hc2, hL2, hco2⟩, hMr, hS⟩
      rw [a2O, a4C, List.take_length] at hco2
      refine ⟨⟨_, _, _, _, _, _, _, m2, rfl, hm2, hc2, hL2, ?_⟩, hS⟩
      rw [hVS, ← hto, ← htu]
      refine Lp.ext2 fun c => ?_
      rw [a2d, co_L, co_L, co_L, hco2, a0X]
  ·rintro ρ M' ⟨⟨x3, x4, x5, x6, x7, x8, x9, m, rfl, hMd, hcl, hL, hto⟩, hS⟩
   rw [a0t, Int.toNat_natCast, ← hsl, List.take_length, b4o] at hto
   rw [hK2]; clear hK2
   walk_at "rd"
   have hml := b2r hcl hL
   refine ⟨_, b4s hMd, m, a0d, hcl, by lia, ?_⟩
   have e1 : norm m = (stS n.toNat ws).1 := by
    show (toL m).1 = _
    rw [hto]; rfl
   rw [e1]
   exact a0j (h _ (hS.updF hd))
 ·exact h.elim
noncomputable def a5K : Sp3 := fun ts M Q => match ts with
 | [.rd s] => ∃ ns : List Int, s = ns.map .int ∧ Q (.bl true) M
 | _ => False
theorem b0o (ns : List Int) (M : MH) (Q : VK3) (_ : ns.length ≤ 63) (h : Q (.bl true) M) : a5K [.rd (ns.map .int)] M Q := ⟨ns, rfl, h⟩
theorem b7j {P : Program} {w : World} {K : PySem.W.Frag} {mg : Str → Option Value} {base : Heap} {f : Addr} {fd : FuncData} {n : Nat}  (F : Fun K "law" "law" a6n f fd) (Z : Zs K mg) (D__law_plait : Df P w K mg base n "_law_plait" ["state", "most", "longest"] a2l) (D__law_state : Df P w K mg base n "_law_state" ["script", "k"] a2k) (D__law_sum : Df P w K mg base n "_law_sum" ["strands", "word"] a3i) (D__law_is_sum : Df P w K mg base n "_law_is_sum" ["found", "due"] a1T) (D_by_states : Df P w K mg base n "by_states" ["plait"] a2K) (D_by_nests : Df P w K mg base n "by_nests" ["plait"] a3g) : FnOk P w K mg base CX0 (n + 1) f fd ["script"] (dSp K a5K) := by
 refine F.fnk a9d (by intro ts M Q h; unfold a5K at h; first | (split at h <;> first | rfl | exact h.elim) | (obtain ⟨_, _, _, _, _, rfl, _⟩ := h; rfl) | (obtain ⟨_, _, _, _, rfl, _⟩ := h; rfl) | (obtain ⟨_, _, _, rfl, _⟩ := h; rfl) | (obtain ⟨_, _, rfl, _⟩ := h; rfl) | (obtain ⟨_, rfl, _⟩ := h; rfl)) ⟨_, fun cdv A outer s H E hr => (@a0c _ _ _ _ _ (@a4W _ _ _ _ _ _ (@a0m _ _ _ _ _ _ _ _ _ _ D__law_plait hr (@a0a _ _ _ _ _ (@a0m _ _ _ _ _ _ _ _ _ _ D__law_state hr (@a0a _ _ _ _ _ (@hv _ 0 _ _ (by rfl) (by walk_at "3") (by decide) (by decide)) (@a0a _ _ _ _ _ a0g a0f (by rfl)) (by rfl)) (by rfl) (by decide) (by rfl) (by rfl)) (@a0a _ _ _ _ _ a0g (@a0a _ _ _ _ _ a0g a0f (by rfl)) (by rfl)) (by rfl)) (by rfl) (by decide) (by rfl) (by rfl)) (@a7H _ _ _ _ _ 2 rfl (@a1m _ _ _ _ _ (@a0J _ _ 1 _ a9d.nd (by rfl) (by walk_at "2") (by walk_at "4")) (@a1m _ _ _ _ _ (@a0J _ _ 2 _ a9d.nd (by rfl) (by walk_at "2") (by walk_at "4")) a4H (by rfl)) (by rfl)) (by rfl) (by rfl)) (by rfl) (by rfl) (by rfl)) (@a0c _ _ _ _ _ (@a0D _ _ _ _ 3 _ _ (@a0m _ _ _ _ _ _ _ _ _ _ D__law_sum hr (@a0a _ _ _ _ _ (@hv _ 1 _ _ (by rfl) (by walk_at "3") (by decide) (by decide)) (@a0a _ _ _ _ _ (@hv _ 2 _ _ (by rfl) (by walk_at "3") (by decide) (by decide)) a0f (by rfl)) (by rfl)) (by rfl) (by decide) (by rfl) (by rfl)) a9d.nd (by rfl) (by walk_at "2") (by rfl) (by walk_at "4")) (@a0c _ _ _ _ _ (@s_if _ _ _ _ _ _ _ _ (@a7E _ _ _ _ (@a3p _ _ _ (@a0m _ _ _ _ _ _ _ _ _ _ D__law_is_sum hr (@a0a _ _ _ _ _ (@a0m _ _ _ _ _ _ _ _ _ _ D_by_states hr (@a1Q _ _ _ _ _ _ _ (@a3a _ _ _ _ _ (@a0a _ _ _ _ _ (@hv _ 1 _ _ (by rfl) (by walk_at "3") (by decide) (by decide)) (@a0a _ _ _ _ _ (@hv _ 2 _ _ (by rfl) (by walk_at "3") (by decide) (by decide)) a0f (by rfl)) (by rfl))) a0f) (by rfl) (by decide) (by rfl) (by rfl)) (@a0a _ _ _ _ _ (@hv _ 3 _ _ (by rfl) (by walk_at "3") (by decide) (by decide)) a0f (by rfl)) (by rfl)) (by rfl) (by decide) (by rfl) (by rfl)) (by intro _; rfl))) (@a0h _ _ _ (@a1a _ _ _ _ h_bl)) a2y) (@a0h _ _ _ (@a1a _ _ _ _ (@a0m _ _ _ _ _ _ _ _ _ _ D__law_is_sum hr (@a0a _ _ _ _ _ (@a0m _ _ _ _ _ _ _ _ _ _ D_by_nests hr (@a1Q _ _ _ _ _ _ _ (@a3a _ _ _ _ _ (@a0a _ _ _ _ _ (@hv _ 1 _ _ (by rfl) (by walk_at "3") (by decide) (by decide)) (@a0a _ _ _ _ _ (@hv _ 2 _ _ (by rfl) (by walk_at "3") (by decide) (by decide)) a0f (by rfl)) (by rfl))) a0f) (by rfl) (by decide) (by rfl) (by rfl)) (@a0a _ _ _ _ _ (@hv _ 3 _ _ (by rfl) (by walk_at "3") (by decide) (by decide)) a0f (by rfl)) (by rfl)) (by rfl) (by decide) (by rfl) (by rfl))))))), fun ts M Q h => ?_⟩
 unfold a5K at h
 split at h
 ·rename_i s
  obtain ⟨ns, rfl, h⟩ := h
  refine a0e fun K1 hK1 => ?_
  walk_at "rd"
  refine ⟨ns, rfl, by decide, by decide, fun p c0 f0 hp => ?_⟩
  refine ⟨c0, f0, a0d, by decide, by decide, by decide, by decide, fun n w s1 f1 hn1 hn6 hwl hw => ?_⟩
  simp only [a6T]
  have ok : PlOK n w := ⟨hn1, by lia, by lia, hw⟩
  have hm : Cm n.toNat := ⟨by lia, by lia⟩
  have hS0 : Sub M (updM M p (.lst [.int s1, .int f1])) := Sub.new hp
  generalize updM M p (.lst [.int s1, .int f1]) = M0 at hS0 ⊢
  refine ⟨rfl, trivial, ?_⟩
  rw [hK1]; clear hK1
  refine a0e fun K2 hK2 => ?_
  walk_at "rd"
  refine ⟨w, rfl, ok, by lia, by lia, fun M1 hS1 => ?_⟩
  show K2 _ _
  rw [hK2]; clear hK2
  refine a0e fun K3 hK3 => ?_
  have hg := (b2N hm (b5s hw)).len
  walk_at "rd"
  refine ⟨by decide, w, rfl, ok, by lia, fun M2 hS2 => ?_⟩
  refine ⟨_, rfl, rfl, by lia, ?_⟩
  dsimp only
  rw [if_neg (by decide)]
  rw [hK3]; clear hK3
  walk_at "rd"
  refine ⟨by decide, w, rfl, ok, fun M3 hS3 => ?_⟩
  exact ⟨_, rfl, rfl, by lia, a3x h (((hS0.trans hS1).trans hS2).trans hS3)⟩
 ·exact h.elim
theorem b7R {l : PySem.W.OpenLaw} {w : World} {K : PySem.W.Frag} {h : Heap} {mg : Str → Option Value} {fa f1 f2 f3 f4 f5 f6 f7 f8 f9 f10 f11 f12 f13 f14 f15 f16 f17 f18 f19 f20 f21 f22 f23 f24 f25 f26 f27 f28 f29 f30 f31 f32 : Addr} (X : K.In h) (G : h.Ns mainGlobals mg) (hfa : mg "law" = some (.ref fa))
  {od1 od2 od3 od4 od5 od6 od7 od8 od9 od10 od11 od12 od13 od14 od15 od16 od17 od18 od19 od20 od21 od22 od23 od24 od25 od26 od27 od28 od29 od30 od31 od32 an1 an2 an3 an4 an5 an6 an7 an8 an9 an10 an11 an12 an13 an14 an15 an16 an17 an18 an19 an20 an21 an22 an23 an24 an25 an26 an27 an28 an29 an30 an31 an32 : Option Addr} {sl1 sl2 sl3 sl4 sl5 sl6 sl7 sl8 sl9 sl10 sl11 sl12 sl13 sl14 sl15 sl16 sl17 sl18 sl19 sl20 sl21 sl22 sl23 sl24 sl25 sl26 sl27 sl28 sl29 sl30 sl31 sl32 : Array (Option Value)} {oc1 oc2 oc3 oc4 oc5 oc6 oc7 oc8 oc9 oc10 oc11 oc12 oc13 oc14 oc15 oc16 oc17 oc18 oc19 oc20 oc21 oc22 oc23 oc24 oc25 oc26 oc27 oc28 oc29 oc30 oc31 oc32 kV1 kV2 kV3 kV4 kV5 kV6 kV7 kV8 kV9 kV10 kV11 kV12 kV13 kV14 kV15 kV16 kV17 kV18 kV19 kV20 kV21 kV22 kV23 kV24 kV25 kV26 kV27 kV28 kV29 kV30 kV31 kV32 dc1 dc2 dc3 dc4 dc5 dc6 dc7 dc8 dc9 dc10 dc11 dc12 dc13 dc14 dc15 dc16 dc17 dc18 dc19 dc20 dc21 dc22 dc23 dc24 dc25 dc26 dc27 dc28 dc29 dc30 dc31 dc32 pm1 pm2 pm3 pm4 pm5 pm6 pm7 pm8 pm9 pm10 pm11 pm12 pm13 pm14 pm15 pm16 pm17 pm18 pm19 pm20 pm21 pm22 pm23 pm24 pm25 pm26 pm27 pm28 pm29 pm30 pm31 pm32 cd1 cd2 cd3 cd4 cd5 cd6 cd7 cd8 cd9 cd10 cd11 cd12 cd13 cd14 cd15 cd16 cd17 cd18 cd19 cd20 cd21 cd22 cd23 cd24 cd25 cd26 cd27 cd28 cd29 cd30 cd31 cd32 ct1 ct2 ct3 ct4 ct5 ct6 ct7 ct8 ct9 ct10 ct11 ct12 ct13 ct14 ct15 ct16 ct17 ct18 ct19 ct20 ct21 ct22 ct23 ct24 ct25 ct26 ct27 ct28 ct29 ct30 ct31 ct32 : Value}
  (a1 : PySem.W.nsIn K mainGlobals "is_letter" = some (some (.ref f1))) (l1 : K.lookup f1 = some ⟨oc1, od1, .func (PySem.W.fnOf "is_letter" "is_letter" (a0p a1K) (a0k a1K) (a0b a1K) .none kV1 dc1 pm1 an1 cd1 ct1), sl1⟩) (c1 : PySem.W.codeIn K cd1 "is_letter" = true) (k1 : PySem.W.keepIn K (.ref f1) = true)
  (a2 : PySem.W.nsIn K mainGlobals "is_word" = some (some (.ref f2))) (l2 : K.lookup f2 = some ⟨oc2, od2, .func (PySem.W.fnOf "is_word" "is_word" (a0p a2A) (a0k a2A) (a0b a2A) .none kV2 dc2 pm2 an2 cd2 ct2), sl2⟩) (c2 : PySem.W.codeIn K cd2 "is_word" = true) (k2 : PySem.W.keepIn K (.ref f2) = true)
  (a3 : PySem.W.nsIn K mainGlobals "is_plait" = some (some (.ref f3))) (l3 : K.lookup f3 = some ⟨oc3, od3, .func (PySem.W.fnOf "is_plait" "is_plait" (a0p a2r) (a0k a2r) (a0b a2r) .none kV3 dc3 pm3 an3 cd3 ct3), sl3⟩) (c3 : PySem.W.codeIn K cd3 "is_plait" = true) (k3 : PySem.W.keepIn K (.ref f3) = true)
  (a4 : PySem.W.nsIn K mainGlobals "looked" = some (some (.ref f4))) (l4 : K.lookup f4 = some ⟨oc4, od4, .func (PySem.W.fnOf "looked" "looked" (a0p a3K) (a0k a3K) (a0b a3K) .none kV4 dc4 pm4 an4 cd4 ct4), sl4⟩) (c4 : PySem.W.codeIn K cd4 "looked" = true) (k4 : PySem.W.keepIn K (.ref f4) = true)
  (a5 : PySem.W.nsIn K mainGlobals "sign_of" = some (some (.ref f5))) (l5 : K.lookup f5 = some ⟨oc5, od5, .func (PySem.W.fnOf "sign_of" "sign_of" (a0p a2T) (a0k a2T) (a0b a2T) .none kV5 dc5 pm5 an5 cd5 ct5), sl5⟩) (c5 : PySem.W.codeIn K cd5 "sign_of" = true) (k5 : PySem.W.keepIn K (.ref f5) = true)
  (a6 : PySem.W.nsIn K mainGlobals "without_noughts" = some (some (.ref f6))) (l6 : K.lookup f6 = some ⟨oc6, od6, .func (PySem.W.fnOf "without_noughts" "without_noughts" (a0p a0z) (a0k a0z) (a0b a0z) .none kV6 dc6 pm6 an6 cd6 ct6), sl6⟩) (c6 : PySem.W.codeIn K cd6 "without_noughts" = true) (k6 : PySem.W.keepIn K (.ref f6) = true)
  (a7 : PySem.W.nsIn K mainGlobals "added" = some (some (.ref f7))) (l7 : K.lookup f7 = some ⟨oc7, od7, .func (PySem.W.fnOf "added" "added" (a0p a4x) (a0k a4x) (a0b a4x) .none kV7 dc7 pm7 an7 cd7 ct7), sl7⟩) (c7 : PySem.W.codeIn K cd7 "added" = true) (k7 : PySem.W.keepIn K (.ref f7) = true)
  (a8 : PySem.W.nsIn K mainGlobals "multiplied" = some (some (.ref f8))) (l8 : K.lookup f8 = some ⟨oc8, od8, .func (PySem.W.fnOf "multiplied" "multiplied" (a0p a1v) (a0k a1v) (a0b a1v) .none kV8 dc8 pm8 an8 cd8 ct8), sl8⟩) (c8 : PySem.W.codeIn K cd8 "multiplied" = true) (k8 : PySem.W.keepIn K (.ref f8) = true)
  (a9 : PySem.W.nsIn K mainGlobals "loop_worths" = some (some (.ref f9))) (l9 : K.lookup f9 = some ⟨oc9, od9, .func (PySem.W.fnOf "loop_worths" "loop_worths" (a0p a1h) (a0k a1h) (a0b a1h) .none kV9 dc9 pm9 an9 cd9 ct9), sl9⟩) (c9 : PySem.W.codeIn K cd9 "loop_worths" = true) (k9 : PySem.W.keepIn K (.ref f9) = true)
  (a10 : PySem.W.nsIn K mainGlobals "states_of" = some (some (.ref f10))) (l10 : K.lookup f10 = some ⟨oc10, od10, .func (PySem.W.fnOf "states_of" "states_of" (a0p a1c) (a0k a1c) (a0b a1c) .none kV10 dc10 pm10 an10 cd10 ct10), sl10⟩) (c10 : PySem.W.codeIn K cd10 "states_of" = true) (k10 : PySem.W.keepIn K (.ref f10) = true)
  (a11 : PySem.W.nsIn K mainGlobals "as_one" = some (some (.ref f11))) (l11 : K.lookup f11 = some ⟨oc11, od11, .func (PySem.W.fnOf "as_one" "as_one" (a0p a3k) (a0k a3k) (a0b a3k) .none kV11 dc11 pm11 an11 cd11 ct11), sl11⟩) (c11 : PySem.W.codeIn K cd11 "as_one" = true) (k11 : PySem.W.keepIn K (.ref f11) = true)
  (a12 : PySem.W.nsIn K mainGlobals "loops_of_state" = some (some (.ref f12))) (l12 : K.lookup f12 = some ⟨oc12, od12, .func (PySem.W.fnOf "loops_of_state" "loops_of_state" (a0p a0L) (a0k a0L) (a0b a0L) .none kV12 dc12 pm12 an12 cd12 ct12), sl12⟩) (c12 : PySem.W.codeIn K cd12 "loops_of_state" = true) (k12 : PySem.W.keepIn K (.ref f12) = true)
  (a13 : PySem.W.nsIn K mainGlobals "by_states" = some (some (.ref f13))) (l13 : K.lookup f13 = some ⟨oc13, od13, .func (PySem.W.fnOf "by_states" "by_states" (a0p a1L) (a0k a1L) (a0b a1L) .none kV13 dc13 pm13 an13 cd13 ct13), sl13⟩) (c13 : PySem.W.codeIn K cd13 "by_states" = true) (k13 : PySem.W.keepIn K (.ref f13) = true)
  (a14 : PySem.W.nsIn K mainGlobals "plain_nest" = some (some (.ref f14))) (l14 : K.lookup f14 = some ⟨oc14, od14, .func (PySem.W.fnOf "plain_nest" "plain_nest" (a0p a1u) (a0k a1u) (a0b a1u) .none kV14 dc14 pm14 an14 cd14 ct14), sl14⟩) (c14 : PySem.W.codeIn K cd14 "plain_nest" = true) (k14 : PySem.W.keepIn K (.ref f14) = true)
  (a15 : PySem.W.nsIn K mainGlobals "makes_loop" = some (some (.ref f15))) (l15 : K.lookup f15 = some ⟨oc15, od15, .func (PySem.W.fnOf "makes_loop" "makes_loop" (a0p a1w) (a0k a1w) (a0b a1w) .none kV15 dc15 pm15 an15 cd15 ct15), sl15⟩) (c15 : PySem.W.codeIn K cd15 "makes_loop" = true) (k15 : PySem.W.keepIn K (.ref f15) = true)
  (a16 : PySem.W.nsIn K mainGlobals "with_hook" = some (some (.ref f16))) (l16 : K.lookup f16 = some ⟨oc16, od16, .func (PySem.W.fnOf "with_hook" "with_hook" (a0p a1J) (a0k a1J) (a0b a1J) .none kV16 dc16 pm16 an16 cd16 ct16), sl16⟩) (c16 : PySem.W.codeIn K cd16 "with_hook" = true) (k16 : PySem.W.keepIn K (.ref f16) = true)
  (a17 : PySem.W.nsIn K mainGlobals "put_in" = some (some (.ref f17))) (l17 : K.lookup f17 = some ⟨oc17, od17, .func (PySem.W.fnOf "put_in" "put_in" (a0p a3J) (a0k a3J) (a0b a3J) .none kV17 dc17 pm17 an17 cd17 ct17), sl17⟩) (c17 : PySem.W.codeIn K cd17 "put_in" = true) (k17 : PySem.W.keepIn K (.ref f17) = true)
  (a18 : PySem.W.nsIn K mainGlobals "with_letter" = some (some (.ref f18))) (l18 : K.lookup f18 = some ⟨oc18, od18, .func (PySem.W.fnOf "with_letter" "with_letter" (a0p a1g) (a0k a1g) (a0b a1g) .none kV18 dc18 pm18 an18 cd18 ct18), sl18⟩) (c18 : PySem.W.codeIn K cd18 "with_letter" = true) (k18 : PySem.W.keepIn K (.ref f18) = true)
  (a19 : PySem.W.nsIn K mainGlobals "loops_of_nest" = some (some (.ref f19))) (l19 : K.lookup f19 = some ⟨oc19, od19, .func (PySem.W.fnOf "loops_of_nest" "loops_of_nest" (a0p a0R) (a0k a0R) (a0b a0R) .none kV19 dc19 pm19 an19 cd19 ct19), sl19⟩) (c19 : PySem.W.codeIn K cd19 "loops_of_nest" = true) (k19 : PySem.W.keepIn K (.ref f19) = true)
  (a20 : PySem.W.nsIn K mainGlobals "by_nests" = some (some (.ref f20))) (l20 : K.lookup f20 = some ⟨oc20, od20, .func (PySem.W.fnOf "by_nests" "by_nests" (a0p a2s) (a0k a2s) (a0b a2s) .none kV20 dc20 pm20 an20 cd20 ct20), sl20⟩) (c20 : PySem.W.codeIn K cd20 "by_nests" = true) (k20 : PySem.W.keepIn K (.ref f20) = true)
  (a21 : PySem.W.nsIn K mainGlobals "_law_state" = some (some (.ref f21))) (l21 : K.lookup f21 = some ⟨oc21, od21, .func (PySem.W.fnOf "_law_state" "_law_state" (a0p a1z) (a0k a1z) (a0b a1z) .none kV21 dc21 pm21 an21 cd21 ct21), sl21⟩) (c21 : PySem.W.codeIn K cd21 "_law_state" = true) (k21 : PySem.W.keepIn K (.ref f21) = true)
  (a22 : PySem.W.nsIn K mainGlobals "_law_take" = some (some (.ref f22))) (l22 : K.lookup f22 = some ⟨oc22, od22, .func (PySem.W.fnOf "_law_take" "_law_take" (a0p a1M) (a0k a1M) (a0b a1M) .none kV22 dc22 pm22 an22 cd22 ct22), sl22⟩) (c22 : PySem.W.codeIn K cd22 "_law_take" = true) (k22 : PySem.W.keepIn K (.ref f22) = true)
  (a23 : PySem.W.nsIn K mainGlobals "_law_letter" = some (some (.ref f23))) (l23 : K.lookup f23 = some ⟨oc23, od23, .func (PySem.W.fnOf "_law_letter" "_law_letter" (a0p a1i) (a0k a1i) (a0b a1i) .none kV23 dc23 pm23 an23 cd23 ct23), sl23⟩) (c23 : PySem.W.codeIn K cd23 "_law_letter" = true) (k23 : PySem.W.keepIn K (.ref f23) = true)
  (a24 : PySem.W.nsIn K mainGlobals "_law_plait" = some (some (.ref f24))) (l24 : K.lookup f24 = some ⟨oc24, od24, .func (PySem.W.fnOf "_law_plait" "_law_plait" (a0p a1A) (a0k a1A) (a0b a1A) .none kV24 dc24 pm24 an24 cd24 ct24), sl24⟩) (c24 : PySem.W.codeIn K cd24 "_law_plait" = true) (k24 : PySem.W.keepIn K (.ref f24) = true)
  (a25 : PySem.W.nsIn K mainGlobals "_law_whole" = some (some (.ref f25))) (l25 : K.lookup f25 = some ⟨oc25, od25, .func (PySem.W.fnOf "_law_whole" "_law_whole" (a0p a1x) (a0k a1x) (a0b a1x) .none kV25 dc25 pm25 an25 cd25 ct25), sl25⟩) (c25 : PySem.W.codeIn K cd25 "_law_whole" = true) (k25 : PySem.W.keepIn K (.ref f25) = true)
  (a26 : PySem.W.nsIn K mainGlobals "_law_put" = some (some (.ref f26))) (l26 : K.lookup f26 = some ⟨oc26, od26, .func (PySem.W.fnOf "_law_put" "_law_put" (a0p a2t) (a0k a2t) (a0b a2t) .none kV26 dc26 pm26 an26 cd26 ct26), sl26⟩) (c26 : PySem.W.codeIn K cd26 "_law_put" = true) (k26 : PySem.W.keepIn K (.ref f26) = true)
  (a27 : PySem.W.nsIn K mainGlobals "_law_times" = some (some (.ref f27))) (l27 : K.lookup f27 = some ⟨oc27, od27, .func (PySem.W.fnOf "_law_times" "_law_times" (a0p a1y) (a0k a1y) (a0b a1y) .none kV27 dc27 pm27 an27 cd27 ct27), sl27⟩) (c27 : PySem.W.codeIn K cd27 "_law_times" = true) (k27 : PySem.W.keepIn K (.ref f27) = true)
  (a28 : PySem.W.nsIn K mainGlobals "_law_told" = some (some (.ref f28))) (l28 : K.lookup f28 = some ⟨oc28, od28, .func (PySem.W.fnOf "_law_told" "_law_told" (a0p a1q) (a0k a1q) (a0b a1q) .none kV28 dc28 pm28 an28 cd28 ct28), sl28⟩) (c28 : PySem.W.codeIn K cd28 "_law_told" = true) (k28 : PySem.W.keepIn K (.ref f28) = true)
  (a29 : PySem.W.nsIn K mainGlobals "_law_is_sum" = some (some (.ref f29))) (l29 : K.lookup f29 = some ⟨oc29, od29, .func (PySem.W.fnOf "_law_is_sum" "_law_is_sum" (a0p a1j) (a0k a1j) (a0b a1j) .none kV29 dc29 pm29 an29 cd29 ct29), sl29⟩) (c29 : PySem.W.codeIn K cd29 "_law_is_sum" = true) (k29 : PySem.W.keepIn K (.ref f29) = true)
  (a30 : PySem.W.nsIn K mainGlobals "_law_loops" = some (some (.ref f30))) (l30 : K.lookup f30 = some ⟨oc30, od30, .func (PySem.W.fnOf "_law_loops" "_law_loops" (a0p a0T) (a0k a0T) (a0b a0T) .none kV30 dc30 pm30 an30 cd30 ct30), sl30⟩) (c30 : PySem.W.codeIn K cd30 "_law_loops" = true) (k30 : PySem.W.keepIn K (.ref f30) = true)
  (a31 : PySem.W.nsIn K mainGlobals "_law_sum" = some (some (.ref f31))) (l31 : K.lookup f31 = some ⟨oc31, od31, .func (PySem.W.fnOf "_law_sum" "_law_sum" (a0p a1N) (a0k a1N) (a0b a1N) .none kV31 dc31 pm31 an31 cd31 ct31), sl31⟩) (c31 : PySem.W.codeIn K cd31 "_law_sum" = true) (k31 : PySem.W.keepIn K (.ref f31) = true)
  (a32 : PySem.W.nsIn K mainGlobals "law" = some (some (.ref f32))) (l32 : K.lookup f32 = some ⟨oc32, od32, .func (PySem.W.fnOf "law" "law" (a0p a6n) (a0k a6n) (a0b a6n) .none kV32 dc32 pm32 an32 cd32 ct32), sl32⟩) (c32 : PySem.W.codeIn K cd32 "law" = true) (k32 : PySem.W.keepIn K (.ref f32) = true)
  (z_abs : PySem.W.nsIn K mainGlobals "abs" = some none)
  (z_all : PySem.W.nsIn K mainGlobals "all" = some none)
  (z_bool : PySem.W.nsIn K mainGlobals "bool" = some none)
  (z_dict : PySem.W.nsIn K mainGlobals "dict" = some none)
  (z_int : PySem.W.nsIn K mainGlobals "int" = some none)
  (z_isinstance : PySem.W.nsIn K mainGlobals "isinstance" = some none)
  (z_len : PySem.W.nsIn K mainGlobals "len" = some none)
  (z_list : PySem.W.nsIn K mainGlobals "list" = some none)
  (z_max : PySem.W.nsIn K mainGlobals "max" = some none)
  (z_min : PySem.W.nsIn K mainGlobals "min" = some none)
  (z_range : PySem.W.nsIn K mainGlobals "range" = some none)
  (z_set : PySem.W.nsIn K mainGlobals "set" = some none)
  (z_sorted : PySem.W.nsIn K mainGlobals "sorted" = some none)
  (z_tuple : PySem.W.nsIn K mainGlobals "tuple" = some none)
  {u_LOOP : Addr} (g_LOOP : PySem.W.nsIn K mainGlobals "LOOP" = some (some (.ref u_LOOP)))
  {n_LOOP : Nat} {s_LOOP : Array (Option Value)} {u_LOOP_0 : Addr} {u_LOOP_1 : Addr} (l_LOOP : K.lookup u_LOOP = some ⟨.type "tuple", none, .seq #[.ref u_LOOP_0, .ref u_LOOP_1] n_LOOP, s_LOOP⟩)
  {n_LOOP_0 : Nat} {s_LOOP_0 : Array (Option Value)} {t_LOOP_0_0 : Tok} {t_LOOP_0_1 : Tok} (l_LOOP_0 : K.lookup u_LOOP_0 = some ⟨.type "tuple", none, .seq #[.int (-2) t_LOOP_0_0, .int (-1) t_LOOP_0_1] n_LOOP_0, s_LOOP_0⟩)
  {n_LOOP_1 : Nat} {s_LOOP_1 : Array (Option Value)} {t_LOOP_1_0 : Tok} {t_LOOP_1_1 : Tok} (l_LOOP_1 : K.lookup u_LOOP_1 = some ⟨.type "tuple", none, .seq #[.int (2) t_LOOP_1_0, .int (-1) t_LOOP_1_1] n_LOOP_1, s_LOOP_1⟩)
  {tk_MOST_LETTERS : Tok} (g_MOST_LETTERS : PySem.W.nsIn K mainGlobals "MOST_LETTERS" = some (some (.int 16 tk_MOST_LETTERS)))
  {tk_MOST_LETTERS_BY_STATES : Tok} (g_MOST_LETTERS_BY_STATES : PySem.W.nsIn K mainGlobals "MOST_LETTERS_BY_STATES" = some (some (.int 10 tk_MOST_LETTERS_BY_STATES)))
  {tk_MOST_STRANDS : Tok} (g_MOST_STRANDS : PySem.W.nsIn K mainGlobals "MOST_STRANDS" = some (some (.int 6 tk_MOST_STRANDS)))
  {u_NOUGHT : Addr} (g_NOUGHT : PySem.W.nsIn K mainGlobals "NOUGHT" = some (some (.ref u_NOUGHT)))
  {n_NOUGHT : Nat} {s_NOUGHT : Array (Option Value)} (l_NOUGHT : K.lookup u_NOUGHT = some ⟨.type "tuple", none, .seq #[] n_NOUGHT, s_NOUGHT⟩)
  {u_ONE : Addr} (g_ONE : PySem.W.nsIn K mainGlobals "ONE" = some (some (.ref u_ONE)))
  {n_ONE : Nat} {s_ONE : Array (Option Value)} {u_ONE_0 : Addr} (l_ONE : K.lookup u_ONE = some ⟨.type "tuple", none, .seq #[.ref u_ONE_0] n_ONE, s_ONE⟩)
  {n_ONE_0 : Nat} {s_ONE_0 : Array (Option Value)} {t_ONE_0_0 : Tok} {t_ONE_0_1 : Tok} (l_ONE_0 : K.lookup u_ONE_0 = some ⟨.type "tuple", none, .seq #[.int (0) t_ONE_0_0, .int (1) t_ONE_0_1] n_ONE_0, s_ONE_0⟩)
  : ∃ fd : FuncData, (∀ (s : Shared) (v : Value), BindsTo s fd ⟨[v], []⟩ [("script", v)]) ∧ ∀ base : Heap, K.In base → base.Ns mainGlobals mg → FnOk l.prog w K mg base CX0 6 fa fd ["script"] (dSp K a5K) := by
 have e := hfa.symm.trans (PySem.W.mg_of X G a32)
 cases e
 have Z : Zs K mg := ⟨PySem.W.mg_none_of X G z_abs, PySem.W.mg_none_of X G z_all, PySem.W.mg_none_of X G z_bool, PySem.W.mg_none_of X G z_dict, PySem.W.mg_none_of X G z_int, PySem.W.mg_none_of X G z_isinstance, PySem.W.mg_none_of X G z_len, PySem.W.mg_none_of X G z_list, PySem.W.mg_none_of X G z_max, PySem.W.mg_none_of X G z_min, PySem.W.mg_none_of X G z_range, PySem.W.mg_none_of X G z_set, PySem.W.mg_none_of X G z_sorted, PySem.W.mg_none_of X G z_tuple, ⟨u_LOOP, PySem.W.mg_of X G g_LOOP, fun H => (a2W (xs := [.ref u_LOOP_0, .ref u_LOOP_1]) l_LOOP (by show 2 ≤ 1000; decide) (.cons rfl (.cons rfl .nil)) (a1k (a2W (xs := [.int (-2), .int (-1)]) l_LOOP_0 (by show 2 ≤ 1000; decide) (.cons ⟨_, rfl⟩ (.cons ⟨_, rfl⟩ .nil)) (a1k a0x (a1k a0x a2V))) (a1k (a2W (xs := [.int (2), .int (-1)]) l_LOOP_1 (by show 2 ≤ 1000; decide) (.cons ⟨_, rfl⟩ (.cons ⟨_, rfl⟩ .nil)) (a1k a0x (a1k a0x a2V))) a2V)))⟩, ⟨tk_MOST_LETTERS, PySem.W.mg_of X G g_MOST_LETTERS⟩, ⟨tk_MOST_LETTERS_BY_STATES, PySem.W.mg_of X G g_MOST_LETTERS_BY_STATES⟩, ⟨tk_MOST_STRANDS, PySem.W.mg_of X G g_MOST_STRANDS⟩, ⟨u_NOUGHT, PySem.W.mg_of X G g_NOUGHT, fun H => (a2W (xs := []) l_NOUGHT (by show 0 ≤ 1000; decide) .nil a2V)⟩, ⟨u_ONE, PySem.W.mg_of X G g_ONE, fun H => (a2W (xs := [.ref u_ONE_0]) l_ONE (by show 1 ≤ 1000; decide) (.cons rfl .nil) (a1k (a2W (xs := [.int (0), .int (1)]) l_ONE_0 (by show 2 ≤ 1000; decide) (.cons ⟨_, rfl⟩ (.cons ⟨_, rfl⟩ .nil)) (a1k a0x (a1k a0x a2V))) a2V))⟩⟩
 have F1 := a0G (st := a1K) l1 c1 k1
 have b1 := F1.binds (ps := ["strands", "letter"]) fun _ _ _ _ _ _ us hl => a4t (P := fun us => bindArgs _ ⟨us, []⟩ = pure (List.zip _ us)) hl (fun _ _ => rfl)
 have F2 := a0G (st := a2A) l2 c2 k2
 have b2 := F2.binds (ps := ["strands", "word", "most"]) fun _ _ _ _ _ _ us hl => b0n (P := fun us => bindArgs _ ⟨us, []⟩ = pure (List.zip _ us)) hl (fun _ _ _ => rfl)
 have F3 := a0G (st := a2r) l3 c3 k3
 have b3 := F3.binds (ps := ["plait"]) fun _ _ _ _ _ _ us hl => a4B (P := fun us => bindArgs _ ⟨us, []⟩ = pure (List.zip _ us)) hl (fun _ => rfl)
 have F4 := a0G (st := a3K) l4 c4 k4
 have b4 := F4.binds (ps := ["plait"]) fun _ _ _ _ _ _ us hl => a4B (P := fun us => bindArgs _ ⟨us, []⟩ = pure (List.zip _ us)) hl (fun _ => rfl)
 have F5 := a0G (st := a2T) l5 c5 k5
 have b5 := F5.binds (ps := ["letter"]) fun _ _ _ _ _ _ us hl => a4B (P := fun us => bindArgs _ ⟨us, []⟩ = pure (List.zip _ us)) hl (fun _ => rfl)
 have F6 := a0G (st := a0z) l6 c6 k6
 have b6 := F6.binds (ps := ["counts"]) fun _ _ _ _ _ _ us hl => a4B (P := fun us => bindArgs _ ⟨us, []⟩ = pure (List.zip _ us)) hl (fun _ => rfl)
 have F7 := a0G (st := a4x) l7 c7 k7
 have b7 := F7.binds (ps := ["one", "other"]) fun _ _ _ _ _ _ us hl => a4t (P := fun us => bindArgs _ ⟨us, []⟩ = pure (List.zip _ us)) hl (fun _ _ => rfl)
 have F8 := a0G (st := a1v) l8 c8 k8
 have b8 := F8.binds (ps := ["one", "other"]) fun _ _ _ _ _ _ us hl => a4t (P := fun us => bindArgs _ ⟨us, []⟩ = pure (List.zip _ us)) hl (fun _ _ => rfl)
 have F9 := a0G (st := a1h) l9 c9 k9
 have b9 := F9.binds (ps := ["most"]) fun _ _ _ _ _ _ us hl => a4B (P := fun us => bindArgs _ ⟨us, []⟩ = pure (List.zip _ us)) hl (fun _ => rfl)
 have F10 := a0G (st := a1c) l10 c10 k10
 have b10 := F10.binds (ps := ["word"]) fun _ _ _ _ _ _ us hl => a4B (P := fun us => bindArgs _ ⟨us, []⟩ = pure (List.zip _ us)) hl (fun _ => rfl)
 have F11 := a0G (st := a3k) l11 c11 k11
 have b11 := F11.binds (ps := ["marks", "one", "other"]) fun _ _ _ _ _ _ us hl => b0n (P := fun us => bindArgs _ ⟨us, []⟩ = pure (List.zip _ us)) hl (fun _ _ _ => rfl)
 have F12 := a0G (st := a0L) l12 c12 k12
 have b12 := F12.binds (ps := ["strands", "hooked"]) fun _ _ _ _ _ _ us hl => a4t (P := fun us => bindArgs _ ⟨us, []⟩ = pure (List.zip _ us)) hl (fun _ _ => rfl)
 have F13 := a0G (st := a1L) l13 c13 k13
 have b13 := F13.binds (ps := ["plait"]) fun _ _ _ _ _ _ us hl => a4B (P := fun us => bindArgs _ ⟨us, []⟩ = pure (List.zip _ us)) hl (fun _ => rfl)
 have F14 := a0G (st := a1u) l14 c14 k14
 have b14 := F14.binds (ps := ["strands"]) fun _ _ _ _ _ _ us hl => a4B (P := fun us => bindArgs _ ⟨us, []⟩ = pure (List.zip _ us)) hl (fun _ => rfl)
 have F15 := a0G (st := a1w) l15 c15 k15
 have b15 := F15.binds (ps := ["nest", "number"]) fun _ _ _ _ _ _ us hl => a4t (P := fun us => bindArgs _ ⟨us, []⟩ = pure (List.zip _ us)) hl (fun _ _ => rfl)
 have F16 := a0G (st := a1J) l16 c16 k16
 have b16 := F16.binds (ps := ["nest", "number"]) fun _ _ _ _ _ _ us hl => a4t (P := fun us => bindArgs _ ⟨us, []⟩ = pure (List.zip _ us)) hl (fun _ _ => rfl)
 have F17 := a0G (st := a3J) l17 c17 k17
 have b17 := F17.binds (ps := ["worths", "nest", "worth"]) fun _ _ _ _ _ _ us hl => b0n (P := fun us => bindArgs _ ⟨us, []⟩ = pure (List.zip _ us)) hl (fun _ _ _ => rfl)
 have F18 := a0G (st := a1g) l18 c18 k18
 have b18 := F18.binds (ps := ["worths", "letter"]) fun _ _ _ _ _ _ us hl => a4t (P := fun us => bindArgs _ ⟨us, []⟩ = pure (List.zip _ us)) hl (fun _ _ => rfl)
 have F19 := a0G (st := a0R) l19 c19 k19
 have b19 := F19.binds (ps := ["nest"]) fun _ _ _ _ _ _ us hl => a4B (P := fun us => bindArgs _ ⟨us, []⟩ = pure (List.zip _ us)) hl (fun _ => rfl)
 have F20 := a0G (st := a2s) l20 c20 k20
 have b20 := F20.binds (ps := ["plait"]) fun _ _ _ _ _ _ us hl => a4B (P := fun us => bindArgs _ ⟨us, []⟩ = pure (List.zip _ us)) hl (fun _ => rfl)
 have F21 := a0G (st := a1z) l21 c21 k21
 have b21 := F21.binds (ps := ["script", "k"]) fun _ _ _ _ _ _ us hl => a4t (P := fun us => bindArgs _ ⟨us, []⟩ = pure (List.zip _ us)) hl (fun _ _ => rfl)
 have F22 := a0G (st := a1M) l22 c22 k22
 have b22 := F22.binds (ps := ["state", "many"]) fun _ _ _ _ _ _ us hl => a4t (P := fun us => bindArgs _ ⟨us, []⟩ = pure (List.zip _ us)) hl (fun _ _ => rfl)
 have F23 := a0G (st := a1i) l23 c23 k23
 have b23 := F23.binds (ps := ["state", "strands"]) fun _ _ _ _ _ _ us hl => a4t (P := fun us => bindArgs _ ⟨us, []⟩ = pure (List.zip _ us)) hl (fun _ _ => rfl)
 have F24 := a0G (st := a1A) l24 c24 k24
 have b24 := F24.binds (ps := ["state", "most", "longest"]) fun _ _ _ _ _ _ us hl => b0n (P := fun us => bindArgs _ ⟨us, []⟩ = pure (List.zip _ us)) hl (fun _ _ _ => rfl)
 have F25 := a0G (st := a1x) l25 c25 k25
 have b25 := F25.binds (ps := ["found"]) fun _ _ _ _ _ _ us hl => a4B (P := fun us => bindArgs _ ⟨us, []⟩ = pure (List.zip _ us)) hl (fun _ => rfl)
 have F26 := a0G (st := a2t) l26 c26 k26
 have b26 := F26.binds (ps := ["found", "power", "count"]) fun _ _ _ _ _ _ us hl => b0n (P := fun us => bindArgs _ ⟨us, []⟩ = pure (List.zip _ us)) hl (fun _ _ _ => rfl)
 have F27 := a0G (st := a1y) l27 c27 k27
 have b27 := F27.binds (ps := ["one", "other"]) fun _ _ _ _ _ _ us hl => a4t (P := fun us => bindArgs _ ⟨us, []⟩ = pure (List.zip _ us)) hl (fun _ _ => rfl)
 have F28 := a0G (st := a1q) l28 c28 k28
 have b28 := F28.binds (ps := ["found"]) fun _ _ _ _ _ _ us hl => a4B (P := fun us => bindArgs _ ⟨us, []⟩ = pure (List.zip _ us)) hl (fun _ => rfl)
 have F29 := a0G (st := a1j) l29 c29 k29
 have b29 := F29.binds (ps := ["found", "due"]) fun _ _ _ _ _ _ us hl => a4t (P := fun us => bindArgs _ ⟨us, []⟩ = pure (List.zip _ us)) hl (fun _ _ => rfl)
 have F30 := a0G (st := a0T) l30 c30 k30
 have b30 := F30.binds (ps := ["strands", "word", "hooks"]) fun _ _ _ _ _ _ us hl => b0n (P := fun us => bindArgs _ ⟨us, []⟩ = pure (List.zip _ us)) hl (fun _ _ _ => rfl)
 have F31 := a0G (st := a1N) l31 c31 k31
 have b31 := F31.binds (ps := ["strands", "word"]) fun _ _ _ _ _ _ us hl => a4t (P := fun us => bindArgs _ ⟨us, []⟩ = pure (List.zip _ us)) hl (fun _ _ => rfl)
 have F32 := a0G (st := a6n) l32 c32 k32
 refine ⟨PySem.W.fnOf "law" "law" (a0p a6n) (a0k a6n) (a0b a6n) .none kV32 dc32 pm32 an32 cd32 ct32, fun s v => .of_eq rfl, fun base _ _ => ?_⟩
 have D1 := a7j (P := l.prog) (w := w) (base := base) (n := 0) F1 (PySem.W.mg_of X G a1) b1 Z 
 have D2 := b0k (P := l.prog) (w := w) (base := base) (n := 1) F2 (PySem.W.mg_of X G a2) b2 Z (D1.mono (by decide))
 have D3 := a8v (P := l.prog) (w := w) (base := base) (n := 2) F3 (PySem.W.mg_of X G a3) b3 Z (D2.mono (by decide))
 have D4 := b1x (P := l.prog) (w := w) (base := base) (n := 3) F4 (PySem.W.mg_of X G a4) b4 Z (D3.mono (by decide))
 have D5 := b0j (P := l.prog) (w := w) (base := base) (n := 0) F5 (PySem.W.mg_of X G a5) b5 Z 
 have D6 := a4s (P := l.prog) (w := w) (base := base) (n := 0) F6 (PySem.W.mg_of X G a6) b6 Z 
 have D7 := b3n (P := l.prog) (w := w) (base := base) (n := 1) F7 (PySem.W.mg_of X G a7) b7 Z (D6.mono (by decide))
 have D8 := a6u (P := l.prog) (w := w) (base := base) (n := 1) F8 (PySem.W.mg_of X G a8) b8 Z (D6.mono (by decide))
 have D9 := a5z (P := l.prog) (w := w) (base := base) (n := 2) F9 (PySem.W.mg_of X G a9) b9 Z (D8.mono (by decide))
 have D10 := a7i (P := l.prog) (w := w) (base := base) (n := 1) F10 (PySem.W.mg_of X G a10) b10 Z (D5.mono (by decide))
 have D11 := b1y (P := l.prog) (w := w) (base := base) (n := 0) F11 (PySem.W.mg_of X G a11) b11 Z 
 have D12 := a4z (P := l.prog) (w := w) (base := base) (n := 1) F12 (PySem.W.mg_of X G a12) b12 Z (D11.mono (by decide))
 have D13 := a7k (P := l.prog) (w := w) (base := base) (n := 4) F13 (PySem.W.mg_of X G a13) b13 Z (D4.mono (by decide)) (D9.mono (by decide)) (D10.mono (by decide)) (D12.mono (by decide)) (D7.mono (by decide)) (D8.mono (by decide))
 have D14 := a6t (P := l.prog) (w := w) (base := base) (n := 0) F14 (PySem.W.mg_of X G a14) b14 Z 
 have D15 := a6v (P := l.prog) (w := w) (base := base) (n := 0) F15 (PySem.W.mg_of X G a15) b15 Z 
 have D16 := a7h (P := l.prog) (w := w) (base := base) (n := 0) F16 (PySem.W.mg_of X G a16) b16 Z 
 have D17 := b1w (P := l.prog) (w := w) (base := base) (n := 2) F17 (PySem.W.mg_of X G a17) b17 Z (D7.mono (by decide))
 have D18 := a5y (P := l.prog) (w := w) (base := base) (n := 3) F18 (PySem.W.mg_of X G a18) b18 Z (D5.mono (by decide)) (D17.mono (by decide)) (D8.mono (by decide)) (D15.mono (by decide)) (D16.mono (by decide))
 have D19 := a4I (P := l.prog) (w := w) (base := base) (n := 0) F19 (PySem.W.mg_of X G a19) b19 Z 
 have D20 := a8w (P := l.prog) (w := w) (base := base) (n := 4) F20 (PySem.W.mg_of X G a20) b20 Z (D4.mono (by decide)) (D14.mono (by decide)) (D18.mono (by decide)) (D9.mono (by decide)) (D7.mono (by decide)) (D8.mono (by decide)) (D19.mono (by decide))
 have D21 := a6y (P := l.prog) (w := w) (base := base) (n := 0) F21 (PySem.W.mg_of X G a21) b21 Z 
 have D22 := a7m (P := l.prog) (w := w) (base := base) (n := 0) F22 (PySem.W.mg_of X G a22) b22 Z 
 have D23 := a5A (P := l.prog) (w := w) (base := base) (n := 1) F23 (PySem.W.mg_of X G a23) b23 Z (D22.mono (by decide))
 have D24 := a6z (P := l.prog) (w := w) (base := base) (n := 2) F24 (PySem.W.mg_of X G a24) b24 Z (D22.mono (by decide)) (D23.mono (by decide))
 have D25 := a6w (P := l.prog) (w := w) (base := base) (n := 0) F25 (PySem.W.mg_of X G a25) b25 Z 
 have D26 := a8y (P := l.prog) (w := w) (base := base) (n := 0) F26 (PySem.W.mg_of X G a26) b26 Z 
 have D27 := a6x (P := l.prog) (w := w) (base := base) (n := 1) F27 (PySem.W.mg_of X G a27) b27 Z (D26.mono (by decide))
 have D28 := a7l (P := l.prog) (w := w) (base := base) (n := 0) F28 (PySem.W.mg_of X G a28) b28 Z 
 have D29 := a5B (P := l.prog) (w := w) (base := base) (n := 1) F29 (PySem.W.mg_of X G a29) b29 Z (D25.mono (by decide))
 have D30 := a6A (P := l.prog) (w := w) (base := base) (n := 0) F30 (PySem.W.mg_of X G a30) b30 Z 
 have D31 := a8x (P := l.prog) (w := w) (base := base) (n := 2) F31 (PySem.W.mg_of X G a31) b31 Z (D30.mono (by decide)) (D27.mono (by decide)) (D26.mono (by decide)) (D28.mono (by decide))
 exact b7j (n := 5) F32 Z (D24.mono (by decide)) (D21.mono (by decide)) (D31.mono (by decide)) (D29.mono (by decide)) (D13.mono (by decide)) (D20.mono (by decide))
end L2
namespace PySem.W.Fast
theorem tw7185910206338966799:True:=⟨⟩
theorem tw16770734313921422433:True:=⟨⟩
theorem tw6912446005248601873:True:=⟨⟩
theorem tw12267354918051081227:True:=⟨⟩
theorem tw9131890856944680901:True:=⟨⟩
theorem tw744999748596170554:True:=⟨⟩
theorem tw12440475116109892341:True:=⟨⟩
theorem tw17886549194674601031:True:=⟨⟩
theorem tw16224277889920487030:True:=⟨⟩
theorem tw14654739626524898561:True:=⟨⟩
theorem tw16970748124053461690:True:=⟨⟩
theorem tw9074438211483709026:True:=⟨⟩
theorem tw13863714876285761803:True:=⟨⟩
theorem tw15340331592054591637:True:=⟨⟩
theorem tw8942727931331246049:True:=⟨⟩
theorem tw4410397629461215114:True:=⟨⟩
theorem tw7407133561478798682:True:=⟨⟩
theorem tw6459249540412115981:True:=⟨⟩
theorem tw842739560507591335:True:=⟨⟩
theorem tw1126694594495410832:True:=⟨⟩
theorem tw15964637136349047965:True:=⟨⟩
theorem tw6517665085416991101:True:=⟨⟩
theorem tw15309708612076100412:True:=⟨⟩
theorem tw18396597849133031666:True:=⟨⟩
theorem tw17088609079523043465:True:=⟨⟩
theorem tw8092073667037346194:True:=⟨⟩
theorem tw11671912664160902299:True:=⟨⟩
theorem tw15964638734992072205:True:=⟨⟩
theorem tw4363454793900592238:True:=⟨⟩
theorem tw6467553445201522093:True:=⟨⟩
theorem tw13594972383390759715:True:=⟨⟩
theorem tw10357465719103172364:True:=⟨⟩
theorem tw2664687508490615583:True:=⟨⟩
theorem tw3417806117669031841:True:=⟨⟩
theorem tw3892335127879527039:True:=⟨⟩
theorem tw2682695586503139778:True:=⟨⟩
theorem tw12992164512525593701:True:=⟨⟩
theorem tw3032215888299182518:True:=⟨⟩
theorem tw6706171458832988671:True:=⟨⟩
theorem tw13862539947090764124:True:=⟨⟩
theorem tw10223351712857828675:True:=⟨⟩
theorem tw3098949401362305552:True:=⟨⟩
theorem tw16221032643248071063:True:=⟨⟩
theorem tw11412203069769280297:True:=⟨⟩
theorem tw12813227589955521817:True:=⟨⟩
theorem tw7400701488205172811:True:=⟨⟩
theorem tw12722617949029135567:True:=⟨⟩
theorem tw14942883260788247758:True:=⟨⟩
theorem tw5304572054759180498:True:=⟨⟩
theorem tw8753476990015217152:True:=⟨⟩
theorem tw7712560916048385441:True:=⟨⟩
theorem tw10246273407528262462:True:=⟨⟩
theorem tw8776834566015293294:True:=⟨⟩
theorem tw15616512426157348142:True:=⟨⟩
theorem tw250432878305511981:True:=⟨⟩
theorem tw17950942931463541381:True:=⟨⟩
theorem tw980487990982368474:True:=⟨⟩
theorem tw13536149618645380125:True:=⟨⟩
theorem tw16018911511416718304:True:=⟨⟩
theorem tw12823967732789766435:True:=⟨⟩
theorem tw4518599739949957744:True:=⟨⟩
theorem tw6414410907303774440:True:=⟨⟩
theorem tw4945462423827886495:True:=⟨⟩
theorem tw4521385021058325702:True:=⟨⟩
theorem tw17903268733463877443:True:=⟨⟩
theorem tw4408869141604001739:True:=⟨⟩
theorem tw12953834865829859430:True:=⟨⟩
theorem tw9823553322811137513:True:=⟨⟩
theorem tw15270975708540769960:True:=⟨⟩
theorem tw15896409706448027899:True:=⟨⟩
theorem tw10134595491760325963:True:=⟨⟩
theorem tw17603026653291194063:True:=⟨⟩
theorem tw5728002743164735231:True:=⟨⟩
theorem tw213333444675130315:True:=⟨⟩
theorem tw16512965421931063060:True:=⟨⟩
theorem tw8207677272849462381:True:=⟨⟩
theorem tw6792894710404762828:True:=⟨⟩
theorem tw12516392715544102813:True:=⟨⟩
theorem tw9141322790037432218:True:=⟨⟩
theorem tw7330225087332712896:True:=⟨⟩
theorem tw5786061035588009353:True:=⟨⟩
theorem tw7699718187571089081:True:=⟨⟩
theorem tw11168446572660253602:True:=⟨⟩
theorem tw14016249324586514908:True:=⟨⟩
theorem tw1294207176393440171:True:=⟨⟩
theorem tw6067747829670042074:True:=⟨⟩
theorem tw16594214254700011359:True:=⟨⟩
theorem tw113636122986635287:True:=⟨⟩
theorem tw12046227464182558125:True:=⟨⟩
theorem tw3263547081345236495:True:=⟨⟩
theorem tw16743320761163111417:True:=⟨⟩
theorem tw15708373549467991098:True:=⟨⟩
theorem tw9546049032873047635:True:=⟨⟩
theorem tw13991850327340847758:True:=⟨⟩
theorem tw17901557620663456313:True:=⟨⟩
theorem tw11647453605433614120:True:=⟨⟩
theorem tw6554006010290029395:True:=⟨⟩
theorem tw7527422891865693556:True:=⟨⟩
theorem tw17955223914710710396:True:=⟨⟩
theorem tw8727333022678829984:True:=⟨⟩
theorem tw16665810838154008665:True:=⟨⟩
theorem tw6256423785458420483:True:=⟨⟩
theorem tw17183819028367621899:True:=⟨⟩
theorem tw6813726152065874516:True:=⟨⟩
theorem tw11812679012277304890:True:=⟨⟩
theorem tw16853835859721009986:True:=⟨⟩
theorem tw3703731740350941966:True:=⟨⟩
theorem tw18227560522430782542:True:=⟨⟩
theorem tw1778582686988735169:True:=⟨⟩
theorem tw7277689942416352034:True:=⟨⟩
theorem tw8135931276586488293:True:=⟨⟩
theorem tw1359927063017731663:True:=⟨⟩
theorem tw1245376671002211456:True:=⟨⟩
theorem tw11502569399560932062:True:=⟨⟩
theorem tw15410528847614805351:True:=⟨⟩
theorem tw7471395373059714375:True:=⟨⟩
theorem tw6586500122219622121:True:=⟨⟩
theorem tw15024464997592357192:True:=⟨⟩
theorem tw8906320985365448788:True:=⟨⟩
theorem tw5160014444780506920:True:=⟨⟩
theorem tw16658794398494470177:True:=⟨⟩
theorem tw17303919993655134356:True:=⟨⟩
theorem tw15311598984098527594:True:=⟨⟩
theorem tw6607291362957742752:True:=⟨⟩
theorem tw7596837225717758011:True:=⟨⟩
theorem tw13864095823244214905:True:=⟨⟩
theorem tw1096757994506067640:True:=⟨⟩
theorem tw13258401258363552689:True:=⟨⟩
theorem tw14448517135715818828:True:=⟨⟩
theorem tw1595822259257335704:True:=⟨⟩
theorem tw11273461852168215802:True:=⟨⟩
theorem tw13952717962094492501:True:=⟨⟩
theorem tw4001610536554592318:True:=⟨⟩
theorem tw9024778253434901841:True:=⟨⟩
theorem tw13296479761778115227:True:=⟨⟩
theorem tw8720944513994260165:True:=⟨⟩
theorem tw13422740285977002007:True:=⟨⟩
theorem tw17864621783630449796:True:=⟨⟩
theorem tw5610742352381766621:True:=⟨⟩
theorem tw16897501965764101588:True:=⟨⟩
theorem tw7397438219707400683:True:=⟨⟩
theorem tw15632595161999157213:True:=⟨⟩
theorem tw8862455251736555582:True:=⟨⟩
theorem tw11580794706321390237:True:=⟨⟩
theorem tw9751639563492141902:True:=⟨⟩
theorem tw15200054983638690534:True:=⟨⟩
theorem tw16064046444956820979:True:=⟨⟩
theorem tw3563640696256147290:True:=⟨⟩
theorem tw4408145130086179866:True:=⟨⟩
theorem tw3091539773888956070:True:=⟨⟩
theorem tw6096191807742582869:True:=⟨⟩
theorem tw11216340947962563195:True:=⟨⟩
theorem tw16898848511128456321:True:=⟨⟩
theorem tw12274021598277857591:True:=⟨⟩
theorem tw2142888195418755812:True:=⟨⟩
theorem tw10029708439100807986:True:=⟨⟩
theorem tw17004687612393085720:True:=⟨⟩
theorem tw16783790773652764494:True:=⟨⟩
theorem tw15388218763457020184:True:=⟨⟩
theorem tw10214167843410332437:True:=⟨⟩
theorem tw11523386537603654596:True:=⟨⟩
theorem tw9066195003975044802:True:=⟨⟩
theorem tw9595362631657049802:True:=⟨⟩
theorem tw17211817469995315866:True:=⟨⟩
theorem tw2782590674856120320:True:=⟨⟩
theorem tw8920808378983303880:True:=⟨⟩
theorem tw4072357243470514660:True:=⟨⟩
theorem tw17989175363495872936:True:=⟨⟩
theorem tw5600326235441562144:True:=⟨⟩
theorem tw5314608533360417574:True:=⟨⟩
theorem tw9133082657118178178:True:=⟨⟩
theorem tw6176822657405336507:True:=⟨⟩
theorem tw6406206769317798043:True:=⟨⟩
theorem tw18190667138179083111:True:=⟨⟩
theorem tw17945196835719262362:True:=⟨⟩
theorem tw12114804024712870362:True:=⟨⟩
theorem tw6591775912035299838:True:=⟨⟩
theorem tw2452581820633143508:True:=⟨⟩
theorem tw9024539164598235609:True:=⟨⟩
theorem tw4486931567259811341:True:=⟨⟩
theorem tw18216891069720646634:True:=⟨⟩
theorem tw5070503274204411284:True:=⟨⟩
theorem tw8614478462782255730:True:=⟨⟩
theorem tw9670385930676619656:True:=⟨⟩
theorem tw10385880117784626514:True:=⟨⟩
theorem tw5891511524016274075:True:=⟨⟩
theorem tw9033040617557721348:True:=⟨⟩
theorem tw10213214451226180326:True:=⟨⟩
theorem tw7392265280015524662:True:=⟨⟩
theorem tw9970204351372661848:True:=⟨⟩
theorem tw388439130147258783:True:=⟨⟩
theorem tw5470831175921484529:True:=⟨⟩
theorem tw5807004729318110575:True:=⟨⟩
theorem tw16243358200002181934:True:=⟨⟩
theorem tw10421473318624196511:True:=⟨⟩
theorem tw16093336866143722091:True:=⟨⟩
theorem tw9673030469990513006:True:=⟨⟩
theorem tw5236298218818298741:True:=⟨⟩
theorem tw9250929226780247791:True:=⟨⟩
theorem tw17011024544532096695:True:=⟨⟩
theorem tw15036599439582214732:True:=⟨⟩
theorem tw10539229021109848931:True:=⟨⟩
theorem tw4512564604761400778:True:=⟨⟩
theorem tw1801204178345556560:True:=⟨⟩
theorem tw12939833905448006633:True:=⟨⟩
theorem tw11460542607079294344:True:=⟨⟩
theorem tw9300310755194773108:True:=⟨⟩
theorem tw10672039317810366780:True:=⟨⟩
theorem tw879436558521610297:True:=⟨⟩
theorem tw6717735806680580902:True:=⟨⟩
theorem tw14727369089487379042:True:=⟨⟩
theorem tw3508209496353714776:True:=⟨⟩
theorem tw15323603736589079835:True:=⟨⟩
theorem tw18335217809213846327:True:=⟨⟩
theorem tw14329485989743301561:True:=⟨⟩
theorem tw6601069449447995627:True:=⟨⟩
theorem tw9152953467128936602:True:=⟨⟩
theorem tw16740080129373620759:True:=⟨⟩
theorem tw15037789080309091203:True:=⟨⟩
theorem tw15670606845877331090:True:=⟨⟩
theorem tw16934294750157469112:True:=⟨⟩
theorem tw12841081187315700313:True:=⟨⟩
theorem tw10270784815729709533:True:=⟨⟩
theorem tw17203165592584300729:True:=⟨⟩
theorem tw10824554000439198211:True:=⟨⟩
theorem tw3177828190948402884:True:=⟨⟩
theorem tw12390702367221144707:True:=⟨⟩
theorem tw8141165310349775930:True:=⟨⟩
theorem tw2182093266524443426:True:=⟨⟩
theorem tw7042935854797961687:True:=⟨⟩
theorem tw3738480769150982613:True:=⟨⟩
theorem tw12315393971434374900:True:=⟨⟩
theorem tw9786132914486591492:True:=⟨⟩
theorem tw712820139271800992:True:=⟨⟩
theorem tw621401397487015536:True:=⟨⟩
theorem tw9862659401802507437:True:=⟨⟩
theorem tw3060256245469511135:True:=⟨⟩
theorem tw13642457491902290574:True:=⟨⟩
theorem tw10812089954977824360:True:=⟨⟩
theorem tw17854470689940565028:True:=⟨⟩
theorem tw14695742724404561852:True:=⟨⟩
theorem tw1699601732599629423:True:=⟨⟩
theorem tw3996284895573549474:True:=⟨⟩
theorem tw17182458582125370812:True:=⟨⟩
theorem tw10373363028064068327:True:=⟨⟩
theorem tw4146762424675365490:True:=⟨⟩
theorem tw18135575760712334177:True:=⟨⟩
theorem tw11025902695173617464:True:=⟨⟩
theorem tw12073904202446215100:True:=⟨⟩
theorem tw11021222967456068598:True:=⟨⟩
theorem tw18366912838157475751:True:=⟨⟩
theorem tw12240381974393206283:True:=⟨⟩
theorem tw15686187969471288669:True:=⟨⟩
theorem tw10893556330880547722:True:=⟨⟩
theorem tw16852658323380126153:True:=⟨⟩
theorem tw2928785154009675709:True:=⟨⟩
theorem tw15332940272852489172:True:=⟨⟩
theorem tw13592262847996668835:True:=⟨⟩
theorem tw7833197959355379091:True:=⟨⟩
theorem tw6461507910870534263:True:=⟨⟩
theorem tw14328285230024552001:True:=⟨⟩
theorem tw13350951372857531396:True:=⟨⟩
theorem tw7850754274593537195:True:=⟨⟩
theorem tw9167782693058684338:True:=⟨⟩
theorem tw4346241149571413567:True:=⟨⟩
theorem tw11613930853672381900:True:=⟨⟩
theorem tw2009215671146939215:True:=⟨⟩
theorem tw18270785082264104677:True:=⟨⟩
theorem tw11095031754742715445:True:=⟨⟩
theorem tw699914445610231796:True:=⟨⟩
theorem tw15423443068025853025:True:=⟨⟩
theorem tw17296111296088008761:True:=⟨⟩
theorem tw16538817358103841946:True:=⟨⟩
theorem tw17441246218743414784:True:=⟨⟩
theorem tw15800195179198526489:True:=⟨⟩
theorem tw5946395765817194204:True:=⟨⟩
theorem tw18362796112357392741:True:=⟨⟩
theorem tw11914686100334435759:True:=⟨⟩
theorem tw2724866787408141727:True:=⟨⟩
theorem tw4520575917736281786:True:=⟨⟩
theorem tw5868467743303330875:True:=⟨⟩
theorem tw17919515798017972063:True:=⟨⟩
theorem tw17440481321608409171:True:=⟨⟩
theorem tw3276893679999419507:True:=⟨⟩
theorem tw7038987406491561269:True:=⟨⟩
theorem tw15300326648681798676:True:=⟨⟩
theorem tw10756282419986669134:True:=⟨⟩
theorem tw5294916039057967930:True:=⟨⟩
theorem tw17878103534540790984:True:=⟨⟩
theorem tw16877016544735474924:True:=⟨⟩
end PySem.W.Fast
open PySem PySem.W PyProof.Rows
set_option maxRecDepth 100000 in
set_option maxHeartbeats 0 in
theorem PySem.Challenge.cw_loopwright_k73_sums_over_states_holds : PySem.Challenge.rw_loopwright_k73_sums_over_states.Holds := by
 w_on; o_law; k_head; (case hw => w_witness2)
 k_fill
 refine L2.b3q (l := PySem.Challenge.rw_loopwright_k73_sums_over_states) (k := 6) (sp := L2.a5K) rfl rfl ⟨rfl, by decide, by decide⟩ (fun w h Y => PySem.W.kIn_of Y) L2.b0o ?F
 case F =>
  intro w mg fa h KX G hmg
  refine' L2.b7R KX G hmg ?a1 ?l1 ?c1 ?k1 ?a2 ?l2 ?c2 ?k2 ?a3 ?l3 ?c3 ?k3 ?a4 ?l4 ?c4 ?k4 ?a5 ?l5 ?c5 ?k5 ?a6 ?l6 ?c6 ?k6 ?a7 ?l7 ?c7 ?k7 ?a8 ?l8 ?c8 ?k8 ?a9 ?l9 ?c9 ?k9 ?a10 ?l10 ?c10 ?k10 ?a11 ?l11 ?c11 ?k11 ?a12 ?l12 ?c12 ?k12 ?a13 ?l13 ?c13 ?k13 ?a14 ?l14 ?c14 ?k14 ?a15 ?l15 ?c15 ?k15 ?a16 ?l16 ?c16 ?k16 ?a17 ?l17 ?c17 ?k17 ?a18 ?l18 ?c18 ?k18 ?a19 ?l19 ?c19 ?k19 ?a20 ?l20 ?c20 ?k20 ?a21 ?l21 ?c21 ?k21 ?a22 ?l22 ?c22 ?k22 ?a23 ?l23 ?c23 ?k23 ?a24 ?l24 ?c24 ?k24 ?a25 ?l25 ?c25 ?k25 ?a26 ?l26 ?c26 ?k26 ?a27 ?l27 ?c27 ?k27 ?a28 ?l28 ?c28 ?k28 ?a29 ?l29 ?c29 ?k29 ?a30 ?l30 ?c30 ?k30 ?a31 ?l31 ?c31 ?k31 ?a32 ?l32 ?c32 ?k32 ?z_abs ?z_all ?z_bool ?z_dict ?z_int ?z_isinstance ?z_len ?z_list ?z_max ?z_min ?z_range ?z_set ?z_sorted ?z_tuple ?g_LOOP ?l_LOOP ?l_LOOP_0 ?l_LOOP_1 ?g_MOST_LETTERS ?g_MOST_LETTERS_BY_STATES ?g_MOST_STRANDS ?g_NOUGHT ?l_NOUGHT ?g_ONE ?l_ONE ?l_ONE_0
  (case a1 => k_is)
  (case l1 => k_is)
  (case c1 => k_is)
  (case k1 => k_is)
  (case a2 => k_is)
  (case l2 => k_is)
  (case c2 => k_is)
  (case k2 => k_is)
  (case a3 => k_is)
  (case l3 => k_is)
  (case c3 => k_is)
  (case k3 => k_is)
  (case a4 => k_is)
  (case l4 => k_is)
  (case c4 => k_is)
  (case k4 => k_is)
  (case a5 => k_is)
  (case l5 => k_is)
  (case c5 => k_is)
  (case k5 => k_is)
  (case a6 => k_is)
  (case l6 => k_is)
  (case c6 => k_is)
  (case k6 => k_is)
  (case a7 => k_is)
  (case l7 => k_is)
  (case c7 => k_is)
  (case k7 => k_is)
  (case a8 => k_is)
  (case l8 => k_is)
  (case c8 => k_is)
  (case k8 => k_is)
  (case a9 => k_is)
  (case l9 => k_is)
  (case c9 => k_is)
  (case k9 => k_is)
  (case a10 => k_is)
  (case l10 => k_is)
  (case c10 => k_is)
  (case k10 => k_is)
  (case a11 => k_is)
  (case l11 => k_is)
  (case c11 => k_is)
  (case k11 => k_is)
  (case a12 => k_is)
  (case l12 => k_is)
  (case c12 => k_is)
  (case k12 => k_is)
  (case a13 => k_is)
  (case l13 => k_is)
  (case c13 => k_is)
  (case k13 => k_is)
  (case a14 => k_is)
  (case l14 => k_is)
  (case c14 => k_is)
  (case k14 => k_is)
  (case a15 => k_is)
  (case l15 => k_is)
  (case c15 => k_is)
  (case k15 => k_is)
  (case a16 => k_is)
  (case l16 => k_is)
  (case c16 => k_is)
  (case k16 => k_is)
  (case a17 => k_is)
  (case l17 => k_is)
  (case c17 => k_is)
  (case k17 => k_is)
  (case a18 => k_is)
  (case l18 => k_is)
  (case c18 => k_is)
  (case k18 => k_is)
  (case a19 => k_is)
  (case l19 => k_is)
  (case c19 => k_is)
  (case k19 => k_is)
  (case a20 => k_is)
  (case l20 => k_is)
  (case c20 => k_is)
  (case k20 => k_is)
  (case a21 => k_is)
  (case l21 => k_is)
  (case c21 => k_is)
  (case k21 => k_is)
  (case a22 => k_is)
  (case l22 => k_is)
  (case c22 => k_is)
  (case k22 => k_is)
  (case a23 => k_is)
  (case l23 => k_is)
  (case c23 => k_is)
  (case k23 => k_is)
  (case a24 => k_is)
  (case l24 => k_is)
  (case c24 => k_is)
  (case k24 => k_is)
  (case a25 => k_is)
  (case l25 => k_is)
  (case c25 => k_is)
  (case k25 => k_is)
  (case a26 => k_is)
  (case l26 => k_is)
  (case c26 => k_is)
  (case k26 => k_is)
  (case a27 => k_is)
  (case l27 => k_is)
  (case c27 => k_is)
  (case k27 => k_is)
  (case a28 => k_is)
  (case l28 => k_is)
  (case c28 => k_is)
  (case k28 => k_is)
  (case a29 => k_is)
  (case l29 => k_is)
  (case c29 => k_is)
  (case k29 => k_is)
  (case a30 => k_is)
  (case l30 => k_is)
  (case c30 => k_is)
  (case k30 => k_is)
  (case a31 => k_is)
  (case l31 => k_is)
  (case c31 => k_is)
  (case k31 => k_is)
  (case a32 => k_is)
  (case l32 => k_is)
  (case c32 => k_is)
  (case k32 => k_is)
  (case z_abs => k_is)
  (case z_all => k_is)
  (case z_bool => k_is)
  (case z_dict => k_is)
  (case z_int => k_is)
  (case z_isinstance => k_is)
  (case z_len => k_is)
  (case z_list => k_is)
  (case z_max => k_is)
  (case z_min => k_is)
  (case z_range => k_is)
  (case z_set => k_is)
  (case z_sorted => k_is)
  (case z_tuple => k_is)
  (case g_LOOP => k_is)
  (case l_LOOP => k_is)
  (case l_LOOP_0 => k_is)
  (case l_LOOP_1 => k_is)
  (case g_MOST_LETTERS => k_is)
  (case g_MOST_LETTERS_BY_STATES => k_is)
  (case g_MOST_STRANDS => k_is)
  (case g_NOUGHT => k_is)
  (case l_NOUGHT => k_is)
  (case g_ONE => k_is)
  (case l_ONE => k_is)
  (case l_ONE_0 => k_is)
