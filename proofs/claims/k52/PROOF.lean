import PyProof.Rows.All
import Wide.All
import OpenK.AllK
import Wide.FinOn
import Lean
import PyProof.EqAt
import PyProof.EqKinds
import PyProof.TupleCall
import PySem.Challenge.RW_loopwright_k52_whole_one_behind_the_othe
set_option Elab.async false
set_option linter.all false
set_option maxRecDepth 100000
namespace L2
open PySem PySem.Spec PyProof.Rows
noncomputable abbrev Key := Sum Int Str
noncomputable def keyIs : Key → Value → Bool
 | .inl k, v => Value.isInt k v
 | .inr x, v => Value.isStrOf x v
noncomputable def keyH (w : World) : Key → Int
 | .inl k => hashInt k
 | .inr x => hashStr w x
theorem keyIs_shape : ∀ {k : Key} {v : Value}, keyIs k v = true → (∃ i t, k = Sum.inl i ∧ v = Value.int i t) ∨ (∃ x t, k = Sum.inr x ∧ v = Value.str x t)
 | .inl i, v, h => by
   obtain ⟨t, e⟩ := Value.isInt_shape (k := i) (v := v) h
   exact .inl ⟨i, t, rfl, e⟩
 | .inr x, v, h => by
   obtain ⟨t, e⟩ := Value.isStrOf_shape (x := x) (v := v) h
   exact .inr ⟨x, t, rfl, e⟩
theorem keyIs_int (i : Int) (t : Tok) : keyIs (.inl i) (.int i t) = true := by simp [keyIs, Value.isInt]
theorem keyIs_str (x : Str) (t : Tok) : keyIs (.inr x) (.str x t) = true := by simp [keyIs, Value.isStrOf]
theorem key_ll (a b : Int) : decide ((Sum.inl a : Key) = Sum.inl b) = (a == b) := by
 by_cases e : a = b
 · subst e; simp
 · have h : ¬ (Sum.inl a : Key) = Sum.inl b := fun q => e (Sum.inl.inj q)
   rw [decide_eq_false h]
   exact (beq_eq_false_iff_ne.mpr e).symm
theorem key_rr (a b : Str) : decide ((Sum.inr a : Key) = Sum.inr b) = decide (a = b) := by
 by_cases e : a = b
 · subst e; simp
 · have h : ¬ (Sum.inr a : Key) = Sum.inr b := fun q => e (Sum.inr.inj q)
   rw [decide_eq_false h, decide_eq_false e]
theorem key_lr (a : Int) (b : Str) : decide ((Sum.inl a : Key) = Sum.inr b) = false := decide_eq_false (fun q => nomatch q)
theorem key_rl (a : Str) (b : Int) : decide ((Sum.inr a : Key) = Sum.inl b) = false := decide_eq_false (fun q => nomatch q)
noncomputable def mixKind (prog : Program) (w : World) : PySem.KeyKind prog w Key where
 is := keyIs
 hash := keyH w
 inj := fun v a b ha hb => by
   rcases keyIs_shape ha with ⟨i, t, rfl, rfl⟩ | ⟨x, t, rfl, rfl⟩
   · rcases keyIs_shape hb with ⟨j, u, rfl, e⟩ | ⟨y, u, rfl, e⟩
     · injection e with e1 _; rw [e1]
     · exact nomatch e
   · rcases keyIs_shape hb with ⟨j, u, rfl, e⟩ | ⟨y, u, rfl, e⟩
     · exact nomatch e
     · injection e with e1 _; rw [e1]
 byValue := fun k v h => by
   rcases keyIs_shape h with ⟨i, t, rfl, rfl⟩ | ⟨x, t, rfl, rfl⟩ <;> rfl
 pyHash := fun hv h => by
   rcases keyIs_shape hv with ⟨i, t, rfl, rfl⟩ | ⟨x, t, rfl, rfl⟩
   · exact wpAny_pyHash_int h
   · exact wpAny_pyHash_str h
 eqBool := fun hu hv h => by
   rcases keyIs_shape hu with ⟨i, t, rfl, rfl⟩ | ⟨x, t, rfl, rfl⟩
   · rcases keyIs_shape hv with ⟨j, u, rfl, rfl⟩ | ⟨y, u, rfl, rfl⟩
     · rw [key_ll] at h; exact wpAny_eqBool_int h
     · rw [key_lr] at h; exact SeqAt.EqAt.int_str i t y u _ _ _ _ h
   · rcases keyIs_shape hv with ⟨j, u, rfl, rfl⟩ | ⟨y, u, rfl, rfl⟩
     · rw [key_rl] at h; exact SeqAt.EqAt.str_int x t j u _ _ _ _ h
     · rw [key_rr] at h; exact wpAny_eqBool_str h
 «strs» := fun k x t v h => by
   rcases keyIs_shape h with ⟨i, u, rfl, e⟩ | ⟨y, u, rfl, e⟩
   · exact nomatch e
   · injection e with e1 _
     subst e1
     cases v <;> rfl
theorem mixKind_int (prog : Program) (w : World) (i : Int) (t : Tok) : (mixKind prog w).is (.inl i) (.int i t) = true := keyIs_int i t
theorem mixKind_str (prog : Program) (w : World) (x : Str) (t : Tok) : (mixKind prog w).is (.inr x) (.str x t) = true := keyIs_str x t
end L2
namespace L2
open PySem PySem.Spec PyProof.Rows
inductive V where
 | non | bl (b : Bool) | int (i : Int) | str (x : Str) | byt (b : Array UInt8) | flt (b : UInt64) | ref (a : Addr) | ty (n : String)
 deriving DecidableEq
noncomputable def RelV : V → Value → Prop
 | .non, u => u = Value.none
 | .bl b, u => u = Value.bool b
 | .int i, u => ∃ t, u = Value.int i t
 | .str x, u => ∃ t, u = Value.str x t
 | .byt b, u => ∃ t, u = Value.bytes b t
 | .flt b, u => ∃ t, u = Value.float b t
 | .ref a, u => u = Value.ref a
 | .ty n, u => u = Value.type n
noncomputable abbrev Vals : List V → List Value → Prop := Paired RelV
theorem Vals.length {xs : List V} {us : List Value} (r : Vals xs us) : xs.length = us.length := Paired.length r
theorem Vals.get : ∀ {xs : List V} {us : List Value} {i : Nat} {x : V}, Vals xs us → xs[i]? = some x → ∃ u, us[i]? = some u ∧ RelV x u
 | _, _, _, _, .nil, e => by simp at e
 | _, _, 0, _, .cons r _, e => by simp at e; subst e; exact ⟨_, rfl, r⟩
 | _, _, i + 1, x, .cons _ t, e => by
   obtain ⟨u, h1, h2⟩ := Vals.get (i := i) (x := x) t (by simpa using e)
   exact ⟨u, by simpa using h1, h2⟩
theorem Vals.set {x : V} {u : Value} (r : RelV x u) : ∀ {xs : List V} {us : List Value} (i : Nat), Vals xs us → Vals (xs.set i x) (us.set i u)
 | _, _, _, .nil => .nil
 | _, _, 0, .cons _ t => .cons r t
 | _, _, i + 1, .cons q t => .cons q (Vals.set r i t)
theorem Vals.append : ∀ {xs ys : List V} {us ws : List Value}, Vals xs us → Vals ys ws → Vals (xs ++ ys) (us ++ ws)
 | _, _, _, _, .nil, s => s
 | _, _, _, _, .cons r t, s => .cons r (Vals.append t s)
theorem Vals.take : ∀ {xs : List V} {us : List Value} (n : Nat), Vals xs us → Vals (xs.take n) (us.take n)
 | _, _, 0, _ => .nil
 | _, _, _ + 1, .nil => .nil
 | _, _, n + 1, .cons r t => .cons r (Vals.take n t)
theorem Vals.drop : ∀ {xs : List V} {us : List Value} (n : Nat), Vals xs us → Vals (xs.drop n) (us.drop n)
 | _, _, 0, r => r
 | _, _, _ + 1, .nil => .nil
 | _, _, n + 1, .cons _ t => Vals.drop n t
noncomputable def RelO : Option V → Option Value → Prop
 | some v, some u => RelV v u
 | none, none => True
 | _, _ => False
noncomputable def KV {κ : Type} : List (κ × V) → List (κ × Value) → Prop := Paired fun (p : κ × V) (q : κ × Value) => p.1 = q.1 ∧ RelV p.2 q.2
noncomputable def kV : Key → V
 | .inl i => .int i
 | .inr x => .str x
inductive HO where
 /-- a list -/
 | lst (xs : List V)
 /-- a tuple (never changes) -/
 | tup (xs : List V)
 /-- a dict whose keys are ints and texts; one whose keys are tuples of ints and texts (the empty one is both) -/
 | dK (kvs : List (Key × V)) | dT (kvs : List (List Key × V))
 /-- a set of ints: its members, its size -/
 | set (S : Int → Bool) (n : Nat)
 /-- an instance of the class at C, its dict at dx, its attributes -/
 | ins (C dx : Addr) (fs : List (Str × V))
 /-- the dict of the instance at x -/
 | own (x : Addr)
 /-- the dict of an exception -/
 | xd (fs : List (Str × V))
 /-- a bound method, f of x -/
 | met (f x : Addr)
 /-- a range object lo, lo + 1, .. below hi -/
 | rng (lo hi : Int)
 /-- a thing that is known to the object (the script; a dict while a loop walks it): read, never written while it is so -/
 | frz (o : Obj) (u : HO)
 /-- a code object's table -/
 | tbl (ps : Array Value)
 /-- any other thing, by what is true of its one object (a def of one's own: SetO a S n := HO.ext fun h => ..) -/
 | ext (φ : Heap → Prop)
noncomputable abbrev Hp := Addr → Option HO
noncomputable def IsTup0 (h : Heap) (a : Addr) (items : Array Value) : Prop := ∃ o, h.get? a = some o ∧ o.cls = .type "tuple" ∧ o.dict = none ∧ ∃ n, o.data = .seq items n
theorem IsTup0.t {h : Heap} {a : Addr} {items : Array Value} (x : IsTup0 h a items) : IsTup h a items := let ⟨o, e, c, _, n, d⟩ := x; ⟨o, e, c, n, d⟩
theorem IsTup0.lt {h : Heap} {a : Addr} {items : Array Value} (x : IsTup0 h a items) : a < h.objs.size := x.t.lt
theorem IsTup0.new (h : Heap) (items : Array Value) : IsTup0 (h.push { cls := .type "tuple", data := .seq items }) h.objs.size items := ⟨_, Heap.get?_push_size _ rfl, rfl, rfl, 0, rfl⟩
noncomputable def upd (H : Hp) (a : Addr) (o : HO) : Hp := fun b => if b = a then some o else H b
theorem upd_same {H : Hp} {a : Addr} {o : HO} : upd H a o a = some o := by unfold upd; rw [if_pos rfl]
theorem upd_ne {H : Hp} {a b : Addr} {o : HO} (h : b ≠ a) : upd H a o b = H b := by unfold upd; rw [if_neg h]
theorem ne_of {H : Hp} {a b : Addr} {o u : HO} (h : H a = some o) (h' : H b = some u) (d : o ≠ u) : a ≠ b := by
 intro e; subst e; rw [h] at h'; exact d (Option.some.inj h')
theorem ne_of_none {H : Hp} {a b : Addr} {o : HO} (h : H a = some o) (h' : H b = none) : a ≠ b := by
 intro e; subst e; rw [h] at h'; cases h'
section
variable (P : Program) (w : World)
noncomputable def ObjOk (H : Hp) (h : Heap) (a : Addr) : HO → Prop
 | .lst xs => xs.length ≤ sizeLine ∧ ∃ (its : List Value) (n : Nat), Vals xs its ∧ h.get? a = some { cls := .type "list", data := .seq its.toArray n }
 | .tup xs => xs.length ≤ sizeLine ∧ ∃ its : List Value, Vals xs its ∧ IsTup0 h a its.toArray
 | .dK kvs => kvs.length ≤ sizeLine ∧ (a == sysModules) = false ∧ ∃ vs, KV kvs vs ∧ h.DictOf (mixKind P w) a vs
 | .dT kvs => kvs.length ≤ sizeLine ∧ (a == sysModules) = false ∧ ∃ xs : List (List Key × Addr × Value),
     Paired (fun (p : List Key × V) (q : List Key × Addr × Value) => p.1 = q.1 ∧ H q.2.1 = some (.tup (p.1.map kV)) ∧ RelV p.2 q.2.2) kvs xs ∧
     ∃ o es ep, h.get? a = some o ∧ o.ExactDict ∧ o.data = .dict es ep ∧ es.toList = xs.map (entryOfKey (tupleKind (mixKind P w))) ∧ (xs.map (·.1)).Nodup
 | .set S n => h.SetOf (intKind P w) a S n
 | .ins C dx fs => H dx = some (.own a) ∧ fs.length ≤ 1000 ∧ dx ≠ a ∧ h.get? a = some (PySem.W.instObj C dx) ∧
     ∃ mA, h.Ns1 dx mA ∧ (∀ f, RelO (fs.lookup f) (mA f)) ∧ PySem.Within mA (fs.map (·.1))
 | .own _ => ∃ o, h.get? a = some o
 | .xd fs => ∃ mA, h.Ns1 a mA ∧ ∀ f, RelO (fs.lookup f) (mA f)
 | .rng lo hi => ∃ t u v, h.get? a = some { cls := .type "range", data := .fields #[.int lo t, .int hi u, .int 1 v] }
 | .frz o u => h.get? a = some o ∧ ObjOk H h a u
 | .tbl ps => h.get? a = some { cls := .none, data := .fields ps }
 | .met f x => h.get? a = some (PySem.W.methodObj (.ref f) (.ref x))
 | .ext φ => φ h ∧ (∃ o, h.get? a = some o) ∧ ∀ h1 h2 : Heap, φ h1 → (∀ o, h1.get? a = some o → h2.get? a = some o) → φ h2
noncomputable def HOk (H : Hp) (h : Heap) : Prop := ∀ a o, H a = some o → ObjOk P w H h a o
end
section
variable {P : Program} {w : World} {H H' : Hp} {h h' : Heap} {a : Addr} {o : HO}
theorem ObjOk.lt (x : ObjOk P w H h a o) : a < h.objs.size := by
 cases o with
 | lst xs => obtain ⟨_, _, _, _, e⟩ := x; exact Heap.lt_size e
 | tup xs => obtain ⟨_, _, _, p⟩ := x; exact p.lt
 | dK kvs => obtain ⟨_, _, _, _, o, _, _, e, _⟩ := x; exact Heap.lt_size e
 | dT kvs => obtain ⟨_, _, _, _, o, _, _, e, _⟩ := x; exact Heap.lt_size e
 | set S n => obtain ⟨o, _, _, _, e, _⟩ := x; exact Heap.lt_size e
 | ins C dx fs => obtain ⟨_, _, _, e, _⟩ := x; exact Heap.lt_size e
 | own y => obtain ⟨_, e⟩ := x; exact Heap.lt_size e
 | xd fs => obtain ⟨_, ⟨_, _, _, e, _⟩, _⟩ := x; exact Heap.lt_size e
 | rng lo hi => obtain ⟨_, _, _, e⟩ := x; exact Heap.lt_size e
 | frz ob u => obtain ⟨e, _⟩ := x; exact Heap.lt_size e
 | tbl ps => exact Heap.lt_size (show h.get? a = some _ from x)
 | met f y => exact Heap.lt_size (show h.get? a = some _ from x)
 | ext φ => obtain ⟨_, ⟨_, e⟩, _⟩ := x; exact Heap.lt_size e
theorem Paired.mapP {α β : Type} {F G : α → β → Prop} : ∀ {l₁ : List α} {l₂ : List β}, Paired F l₁ l₂ → (∀ a b, F a b → G a b) → Paired G l₁ l₂
 | _, _, .nil, _ => .nil
 | _, _, .cons r t, f => .cons (f _ _ r) (Paired.mapP t f)
theorem ObjOk.stay (x : ObjOk P w H h a o) (k : ∀ b u, (b = a ∨ H b = some (.own a)) → h.get? b = some u → h'.get? b = some u)
   (ho : ∀ b, H b = some (.own a) → H' b = some (.own a)) (ht : ∀ b xs, H b = some (.tup xs) → H' b = some (.tup xs)) : ObjOk P w H' h' a o := by
 induction o with
 | lst xs => obtain ⟨z, its, n, r, e⟩ := x; exact ⟨z, its, n, r, k _ _ (.inl rfl) e⟩
 | tup xs => obtain ⟨z, its, r, ob, e, c⟩ := x; exact ⟨z, its, r, ob, k _ _ (.inl rfl) e, c⟩
 | dK kvs => obtain ⟨z, y, vs, r, ob, es, ep, e, c⟩ := x; exact ⟨z, y, vs, r, ob, es, ep, k _ _ (.inl rfl) e, c⟩
 | dT kvs =>
   obtain ⟨z, y, xs, r, ob, es, ep, e, c⟩ := x
   exact ⟨z, y, xs, Paired.mapP r fun p q z => ⟨z.1, ht _ _ z.2.1, z.2.2⟩, ob, es, ep, k _ _ (.inl rfl) e, c⟩
 | set S n => obtain ⟨ob, es, ep, t, e, c⟩ := x; exact ⟨ob, es, ep, t, k _ _ (.inl rfl) e, c⟩
 | ins C dx fs =>
   obtain ⟨d, z, ne, e, mA, ⟨od, es, ep, e2, c⟩, r⟩ := x
   exact ⟨ho _ d, z, ne, k _ _ (.inl rfl) e, mA, ⟨od, es, ep, k _ _ (.inr d) e2, c⟩, r⟩
 | own y => obtain ⟨ob, e⟩ := x; exact ⟨ob, k _ _ (.inl rfl) e⟩
 | xd fs => obtain ⟨mA, ⟨od, es, ep, e, c⟩, r⟩ := x; exact ⟨mA, ⟨od, es, ep, k _ _ (.inl rfl) e, c⟩, r⟩
 | rng lo hi => obtain ⟨t, u, v, e⟩ := x; exact ⟨t, u, v, k _ _ (.inl rfl) e⟩
 | frz ob u ih => obtain ⟨e, q⟩ := x; exact ⟨k _ _ (.inl rfl) e, ih q⟩
 | tbl ps =>
   have e : h.get? a = some { cls := .none, data := .fields ps } := x
   show h'.get? a = some { cls := .none, data := .fields ps }
   exact k a _ (.inl rfl) e
 | met f y =>
   have e : h.get? a = some (PySem.W.methodObj (.ref f) (.ref y)) := x
   show h'.get? a = some (PySem.W.methodObj (.ref f) (.ref y))
   exact k a _ (.inl rfl) e
 | ext φ => obtain ⟨p, ⟨o, e⟩, st⟩ := x; exact ⟨st _ _ p fun o q => k _ _ (.inl rfl) q, ⟨o, k _ _ (.inl rfl) e⟩, st⟩
theorem HOk.lt (x : HOk P w H h) (e : H a = some o) : a < h.objs.size := (x a o e).lt
theorem HOk.fresh (x : HOk P w H h) (e : h.objs.size ≤ a) : H a = none := by
 cases q : H a with
 | none => rfl
 | some u => exact absurd (Nat.lt_of_lt_of_le (x.lt q) e) (Nat.lt_irrefl _)
theorem HOk.kept (x : HOk P w H h) (k : ∀ b u, h.get? b = some u → h'.get? b = some u) : HOk P w H h' := fun a o e =>
 (x a o e).stay (fun b u _ q => k b u q) (fun _ q => q) fun _ _ q => q
theorem HOk.laid (x : HOk P w H h) (k : ∀ b u, h.get? b = some u → h'.get? b = some u) (hp : h.objs.size ≤ a) (new : ObjOk P w (upd H a o) h' a o) : HOk P w (upd H a o) h' := fun b u e => by
 have hn := x.fresh hp
 by_cases hb : b = a
 · subst hb; rw [upd_same] at e; cases e; exact new
 · rw [upd_ne hb] at e
   exact (x b u e).stay (fun c v _ q => k c v q) (fun c q => by rw [upd_ne (ne_of_none q hn)]; exact q) fun c xs q => by rw [upd_ne (ne_of_none q hn)]; exact q
end
noncomputable def Rd (H : Hp) (a : Addr) (u : HO) : Prop := H a = some u ∨ ∃ o, H a = some (.frz o u)
theorem Rd.ok {P : Program} {w : World} {H : Hp} {h : Heap} {a : Addr} {u : HO} (r : Rd H a u) (x : HOk P w H h) : ObjOk P w H h a u := by
 rcases r with r | ⟨o, r⟩
 · exact x a u r
 · obtain ⟨_, q⟩ := x a _ r
   exact q
noncomputable def Mut : Option HO → Prop
 | some (.lst _) => True
 | some (.dK _) => True
 | some (.dT _) => True
 | some (.set _ _) => True
 | some (.ins _ _ _) => True
 | some (.ext _) => True
 | _ => False
section
variable {P : Program} {w : World} {H : Hp} {h h' : Heap} {x e : Addr} {o' : HO}
theorem HOk.write (ok : HOk P w H h) (mu : Mut (H x)) (he : e = x ∨ H e = some (.own x)) (k : ∀ b u, b ≠ e → h.get? b = some u → h'.get? b = some u) (heo : ∃ u, h'.get? e = some u)
   (new : ObjOk P w (upd H x o') h' x o') : HOk P w (upd H x o') h' := fun b u q => by
 have nown : ∀ c y, H c = some (.own y) → c ≠ x := fun c y r z => by subst z; rw [r] at mu; exact mu
 have ntup : ∀ c xs, H c = some (.tup xs) → c ≠ x := fun c xs r z => by subst z; rw [r] at mu; exact mu
 by_cases hb : b = x
 · subst hb; rw [upd_same] at q; cases q; exact new
 · rw [upd_ne hb] at q
   by_cases hbe : b = e
   · have q' : H b = some (.own x) := by
       rcases he with z | z
       · exact absurd (hbe.trans z) hb
       · rw [hbe]; exact z
     rw [q] at q'; cases q'
     obtain ⟨v, hv⟩ := heo
     exact ⟨v, by rw [hbe]; exact hv⟩
   · refine (ok b u q).stay (fun c v hc r => k c v ?_ r) (fun c r => by rw [upd_ne (nown c b r)]; exact r) fun c xs r => by rw [upd_ne (ntup c xs r)]; exact r
     rcases hc with rfl | hc
     · exact hbe
     · rintro rfl
       rcases he with z | z
       · exact nown c b hc z
       · rw [hc] at z; cases z; exact hb rfl
end
structure Un (fs ex : List Addr) (H H' : Hp) (h h' : Heap) : Prop where
 keep : ∀ b o, h.get? b = some o → H b = none → b ∉ fs → b ∉ ex → h'.get? b = some o
 slot : ∀ b o, h.get? b = some o → H b = none → b ∈ fs → b ∉ ex → ∃ sl, h'.get? b = some { o with slots := sl }
 free : ∀ b o, h.get? b = some o → H b = none → b ∉ ex → H' b = none
 there : ∀ b o, h.get? b = some o → b ∉ ex → ∃ o', h'.get? b = some o'
 tups : ∀ b xs, H b = some (.tup xs) → H' b = some (.tup xs)
 frzs : ∀ b o u, H b = some (.frz o u) → H' b = some (.frz o u)
 tbls : ∀ b ps, H b = some (.tbl ps) → ∃ more, H' b = some (.tbl (ps ++ more))
section
variable {fs fs' ex ex' : List Addr} {H H1 H2 : Hp} {h h1 h2 h' : Heap} {a x e : Addr} {o : HO}
theorem Un.any (u : Un fs ex H H1 h h1) {b : Addr} {ob : Obj} (q : h.get? b = some ob) (n : H b = none) (hx : b ∉ ex) : ∃ sl, h1.get? b = some { ob with slots := sl } := by
 by_cases hb : b ∈ fs
 · exact u.slot b ob q n hb hx
 · exact ⟨ob.slots, u.keep b ob q n hb hx⟩
theorem Un.kept (k : ∀ b u, h.get? b = some u → h'.get? b = some u) : Un fs ex H H h h' :=
 ⟨fun b ob q _ _ _ => k b ob q, fun b ob q _ _ _ => ⟨ob.slots, k b ob q⟩, fun _ _ _ n _ => n, fun b ob q _ => ⟨ob, k b ob q⟩, fun _ _ q => q, fun _ _ _ q => q, fun _ ps q => ⟨#[], by rw [q]; simp⟩⟩
theorem Un.refl : Un fs ex H H h h := Un.kept fun _ _ q => q
theorem Un.laid (k : ∀ b u, h.get? b = some u → h'.get? b = some u) (hp : h.objs.size ≤ a) (hn : H a = none) : Un fs ex H (upd H a o) h h' where
 keep := fun b u q _ _ _ => k b u q
 slot := fun b u q _ _ _ => ⟨u.slots, k b u q⟩
 free := fun b u q n _ => by rw [upd_ne (Nat.ne_of_lt (Nat.lt_of_lt_of_le (Heap.lt_size q) hp))]; exact n
 there := fun b u q _ => ⟨u, k b u q⟩
 tups := fun b xs q => by rw [upd_ne (ne_of_none q hn)]; exact q
 frzs := fun b u xs q => by rw [upd_ne (ne_of_none q hn)]; exact q
 tbls := fun b ps q => ⟨#[], by rw [upd_ne (ne_of_none q hn), q]; simp⟩
theorem Un.write (mu : Mut (H x)) (he : e = x ∨ H e = some (.own x)) (k : ∀ b u, b ≠ e → h.get? b = some u → h'.get? b = some u) (heo : ∃ u, h'.get? e = some u) : Un fs ex H (upd H x o) h h' := by
 have hx : ∀ b, H b = none → b ≠ x := fun b n z => by subst z; rw [n] at mu; exact mu
 have hb : ∀ b, H b = none → b ≠ e := fun b n z => by
   subst z
   rcases he with r | r
   · exact hx b n r
   · rw [n] at r; cases r
 have hm : ∀ b u, H b = some u → ¬ Mut (some u) → b ≠ x := fun b u q nm z => by subst z; rw [q] at mu; exact nm mu
 refine ⟨fun b u q n _ _ => k b u (hb b n) q, fun b u q n _ _ => ⟨u.slots, k b u (hb b n) q⟩, fun b u q n _ => by rw [upd_ne (hx b n)]; exact n, fun b u q _ => ?_,
   fun b xs q => by rw [upd_ne (hm b _ q fun z => z)]; exact q, fun b u xs q => by rw [upd_ne (hm b _ q fun z => z)]; exact q, fun b ps q => ⟨#[], by rw [upd_ne (hm b _ q fun z => z), q]; simp⟩⟩
 by_cases hbe : b = e
 · subst hbe; exact heo
 · exact ⟨u, k b u hbe q⟩
end
noncomputable def trk (h : Heap) (H : Hp) : List Addr := (List.range h.objs.size).filter fun a => (H a).isSome
noncomputable def hidT (h : Heap) (H : Hp) : Heap := PySem.W.hideAll h (trk h H)
theorem hidT_size (h : Heap) (H : Hp) : (hidT h H).objs.size = h.objs.size := PySem.W.hideAll_size _ _
theorem hidT_get {h : Heap} {H : Hp} {b : Addr} {o : Obj} (e : h.get? b = some o) (n : H b = none) : (hidT h H).get? b = some o :=
 PySem.W.hideAll_get _ e fun hm => by
   have q : (H b).isSome = true := (List.mem_filter.mp hm).2
   rw [n] at q; simp at q
theorem of_hidT {h : Heap} {H : Hp} {b : Addr} {o : Obj} (e : (hidT h H).get? b = some o) : h.get? b = some o ∧ H b = none := by
 have e' : h.get? b = some o := PySem.W.of_hideAll (trk h H) e
 refine ⟨e', ?_⟩
 cases q : H b with
 | none => rfl
 | some x =>
   have hm : b ∈ trk h H := List.mem_filter.mpr ⟨List.mem_range.mpr (Heap.lt_size e'), by simp [q]⟩
   have z : (hidT h H).get? b = none := PySem.W.hideAll_none (trk h H) hm
   rw [z] at e; cases e
end L2
namespace L2
open PySem PySem.Spec PyProof.Rows
structure Mod (K : PySem.W.Frag) (mg : Str → Option Value) (base : Heap) : Prop where
 kin : K.In base
 glob : base.Ns mainGlobals mg
 blt : ∃ mb, base.Ns builtinsNs mb ∧ ∀ x : Str, x ≠ "__name__" → mb x = bootBuiltins x
 nolimit : base.NoLimit
structure Cx where
 prog : Program
 w : World
 K : PySem.W.Frag
 mg : Str → Option Value
 base : Heap
 A : Around
 N : List Str
 s₀ : Shared
 H₀ : Hp
 env : Env
 outer : List Env
 stack : List Env
 ex : List Addr
 fn : Str → Bool
 calm : Bool
 pn : List (Addr × Obj)
 xe : Value → Shared → Prop
noncomputable def frs (l : List Env) : List Addr := l.filterMap (·.frame)
noncomputable abbrev Cx.fs (X : Cx) : List Addr := frs X.outer
noncomputable def Vis (sc : Scope) (x : Str) : Prop := sc.names.lookup x = some .local ∨ sc.names.lookup x = some .cell ∨ sc.names.lookup x = some .free
noncomputable def Loc (sc : Scope) (x : Str) : Prop := sc.names.lookup x = some .local ∨ sc.names.lookup x = some .cell
noncomputable def Look (env : Env) (h : Heap) (m : Str → Option Value) (x : Str) (u : Value) : Prop :=
 (env.kindOf x = some .local ∧ m x = some u) ∨ ((env.kindOf x = some .cell ∨ env.kindOf x = some .free) ∧ ∃ c, env.cells.lookup x = some c ∧ h.IsCell c (some u))
structure Cx.Ok (X : Cx) : Prop where
 mod : Mod X.K X.mg X.base
 kind : X.env.scope.kind = .function
 glob : X.env.globals = mainGlobals
 blt : X.env.builtins = builtinsNs
 above : X.s₀.heap.objs.size ≤ X.env.locals
 inj : ∀ x y c, X.env.cells.lookup x = some c → X.env.cells.lookup y = some c → x = y
 has : ∀ x, (X.env.kindOf x = some .cell ∨ X.env.kindOf x = some .free) → ∃ c, X.env.cells.lookup x = some c
 cab : ∀ x c, X.fn x = true → X.env.cells.lookup x = some c → X.s₀.heap.objs.size ≤ c
 hd : X.calm = true → X.A.handled = none
 frames : X.A.frames = some X.stack
 stk : X.stack = X.outer ∨ (X.stack = X.env :: X.outer ∧ X.env.frame = some X.env.locals)
 exf : ∀ b ∈ X.ex, b ≠ X.env.locals ∧ ∀ x c, X.env.cells.lookup x = some c → c ≠ b
 bs : ∀ b o, X.base.get? b = some o → X.s₀.heap.get? b = some o ∧ X.H₀ b = none
 bsz : X.base.objs.size ≤ X.s₀.heap.objs.size
 noex : ∀ b o, X.base.get? b = some o → b ∉ X.ex
 exfs : ∀ b ∈ X.ex, b ∉ X.fs
 funs : X.s₀.heap.FunFrames X.base X.outer
 frf : ∀ b ∈ X.fs, X.H₀ b = none
structure Inv (X : Cx) (pins : List (Addr × Obj)) (σ : List (Option V)) (H : Hp) (s : Shared) : Prop where
 ok : X.Ok
 os : s.os = X.s₀.os
 bare : AllBare s.gens
 base : Un X.fs X.ex X.H₀ H X.s₀.heap s.heap
 loc : ∃ m, s.heap.Ns X.env.locals m ∧ ∀ (i : Nat) (x : Str) (v : V), X.N[i]? = some x → σ[i]? = some (some v) → Vis X.env.scope x → ∃ u, RelV v u ∧ Look X.env s.heap m x u
 cell : ∀ x c, X.env.cells.lookup x = some c → ∃ v, s.heap.IsCell c v
 free : H X.env.locals = none
 freeC : ∀ x c, X.env.cells.lookup x = some c → H c = none
 pin : ∀ p ∈ X.pn ++ pins, s.heap.get? p.1 = some p.2 ∧ H p.1 = none ∧ p.1 ≠ X.env.locals ∧ p.1 ∉ X.fs ∧ ∀ v, p.2.data ≠ .cell v
 hok : HOk X.prog X.w H s.heap
 len : σ.length = X.N.length
section
variable {X : Cx} {pins : List (Addr × Obj)} {σ : List (Option V)} {H H' : Hp} {s : Shared} {h' : Heap}
theorem Cx.Ok.nofr (ok : X.Ok) {b : Addr} {o : Obj} (e : X.base.get? b = some o) : b ∉ X.fs := fun hb => by
 have := (ok.funs.mem hb).1
 rw [e] at this; cases this
theorem Inv.bs (I : Inv X pins σ H s) : ∀ b o, X.base.get? b = some o → s.heap.get? b = some o ∧ H b = none := fun b o e =>
 ⟨I.base.keep b o (I.ok.bs b o e).1 (I.ok.bs b o e).2 (I.ok.nofr e) (I.ok.noex b o e), I.base.free b o (I.ok.bs b o e).1 (I.ok.bs b o e).2 (I.ok.noex b o e)⟩
theorem Inv.bk (I : Inv X pins σ H s) : ∀ b o, X.base.get? b = some o → s.heap.get? b = some o := fun b o e => (I.bs b o e).1
theorem Inv.mod (I : Inv X pins σ H s) : Mod X.K X.mg X.base := I.ok.mod
theorem Inv.kIn (I : Inv X pins σ H s) : X.K.In s.heap := I.ok.mod.kin.keeps I.bk
theorem Inv.lt (I : Inv X pins σ H s) : X.env.locals < s.heap.objs.size := let ⟨_, hn, _⟩ := I.loc; hn.lt
theorem Inv.sz (I : Inv X pins σ H s) : X.s₀.heap.objs.size ≤ s.heap.objs.size := Nat.le_trans I.ok.above (Nat.le_of_lt I.lt)
theorem Inv.nofs (I : Inv X pins σ H s) {a : Addr} (h : s.heap.objs.size ≤ a) : a ∉ X.fs := fun hb => by
 obtain ⟨_, o, ho, _⟩ := I.ok.funs.mem hb
 exact absurd (Nat.lt_of_lt_of_le (Heap.lt_size ho) (Nat.le_trans I.sz h)) (Nat.lt_irrefl _)
theorem Inv.cne (I : Inv X pins σ H s) : ∀ x c, X.env.cells.lookup x = some c → c ≠ X.env.locals := fun x c e z => by
 obtain ⟨v, o, ho, hd⟩ := I.cell x c e
 obtain ⟨m, ⟨o', es, ep, ho', hd', _⟩, _⟩ := I.loc
 rw [z, ho'] at ho; cases ho; rw [hd'] at hd; cases hd
theorem Inv.funs (I : Inv X pins σ H s) : s.heap.FunFrames X.base X.outer := by
 have all : ∀ (l : List Env), (∀ b ∈ frs l, b ∈ X.fs) → X.s₀.heap.FunFrames X.base l → s.heap.FunFrames X.base l := by
   intro l
   induction l with
   | nil => intro _ _; trivial
   | cons env r ih =>
     intro hs hl
     obtain ⟨hk, ⟨L, o, hf, hn, ho, hd⟩, hr⟩ := hl
     have hL : L ∈ X.fs := hs L (by unfold frs; rw [List.filterMap_cons, hf]; exact List.mem_cons_self)
     obtain ⟨sl, e⟩ := I.base.slot L o ho (I.ok.frf L hL) hL fun z => I.ok.exfs L z hL
     exact ⟨hk, ⟨L, _, hf, hn, e, hd⟩, ih (fun b hb => hs b (by unfold frs; rw [List.filterMap_cons, hf]; exact List.mem_cons_of_mem _ hb)) hr⟩
 exact all X.outer (fun _ hb => hb) I.ok.funs
theorem Inv.stack (I : Inv X pins σ H s) : s.heap.FunFrames X.base X.stack := by
 rcases I.ok.stk with e | ⟨e, hf⟩
 · rw [e]; exact I.funs
 · rw [e]
   obtain ⟨m, hn, _⟩ := I.loc
   refine .cons (by rw [I.ok.kind]; decide) hf hn ?_ I.funs
   exact Heap.get?_none_of_le (Nat.le_trans I.ok.bsz I.ok.above)
theorem Inv.stkSub (I : Inv X pins σ H s) : ∀ b ∈ frs X.stack, b ∈ X.env.locals :: X.fs := fun b hb => by
 rcases I.ok.stk with e | ⟨e, hf⟩
 · rw [e] at hb; exact List.mem_cons_of_mem _ hb
 · rw [e] at hb
   unfold frs at hb
   rw [List.filterMap_cons, hf] at hb
   exact hb
theorem Inv.stkFree (I : Inv X pins σ H s) : ∀ b ∈ frs X.stack, H b = none := fun b hb => by
 rcases List.mem_cons.mp (I.stkSub b hb) with e | hb
 · rw [e]; exact I.free
 · obtain ⟨_, o, ho, _⟩ := I.ok.funs.mem hb
   exact I.base.free b o ho (I.ok.frf b hb) fun z => I.ok.exfs b z hb
theorem Inv.step {g' : Array GenState} {t' : Nat} {d' : Drawn} {ch : List Addr} (I : Inv X pins σ H s)
   (hch : ∀ b ∈ ch, (b ∈ X.ex ∨ X.s₀.heap.objs.size ≤ b) ∧ b ≠ X.env.locals ∧ (∀ x c, X.env.cells.lookup x = some c → c ≠ b) ∧ ∀ p ∈ X.pn ++ pins, p.1 ≠ b)
   (keep : ∀ b o, b ≠ X.env.locals → b ∉ X.fs → b ∉ ch → s.heap.get? b = some o → H b = none → h'.get? b = some o)
   (slot : ∀ b o, b ≠ X.env.locals → b ∈ X.fs → b ∉ ch → s.heap.get? b = some o → H b = none → ∃ sl, h'.get? b = some { o with slots := sl }) (free : ∀ b o, b ∉ ch → s.heap.get? b = some o → H b = none → H' b = none)
   (there : ∀ b o, b ∉ ch → s.heap.get? b = some o → ∃ o', h'.get? b = some o')
   (tups : ∀ b xs, H b = some (.tup xs) → H' b = some (.tup xs)) (frzs : ∀ b o u, H b = some (.frz o u) → H' b = some (.frz o u)) (tbls : ∀ b ps, H b = some (.tbl ps) → ∃ more, H' b = some (.tbl (ps ++ more)))
   (ns : ∀ m, s.heap.Ns X.env.locals m → h'.Ns X.env.locals m) (hok : HOk X.prog X.w H' h') (hg : AllBare g') :
   Inv X pins σ H' { s with heap := h', gens := g', drawn := d', toks := t' } := by
 have neL : ∀ b o, X.s₀.heap.get? b = some o → b ≠ X.env.locals := fun b o e => Nat.ne_of_lt (Nat.lt_of_lt_of_le (Heap.lt_size e) I.ok.above)
 have neC : ∀ b o, X.s₀.heap.get? b = some o → b ∉ X.ex → b ∉ ch := fun b o e hx hb => by
   rcases (hch b hb).1 with z | z
   · exact hx z
   · exact absurd (Nat.lt_of_lt_of_le (Heap.lt_size e) z) (Nat.lt_irrefl _)
 have cellK : ∀ x c, X.env.cells.lookup x = some c → ∀ v, s.heap.IsCell c v → h'.IsCell c v := fun x c e v ⟨o, ho, hd⟩ => by
   have nch : c ∉ ch := fun z => (hch c z).2.2.1 x c e rfl
   by_cases hc : c ∈ X.fs
   · obtain ⟨sl, q⟩ := slot c o (I.cne x c e) hc nch ho (I.freeC x c e)
     exact ⟨_, q, hd⟩
   · exact ⟨o, keep c o (I.cne x c e) hc nch ho (I.freeC x c e), hd⟩
 refine ⟨I.ok, I.os, hg, ⟨fun b o e n hb hx => ?_, fun b o e n hb hx => ?_, fun b o e n hx => ?_, fun b o e hx => ?_, fun b xs e => tups b xs (I.base.tups b xs e), fun b o xs e => frzs b o xs (I.base.frzs b o xs e), fun b ps e => ?_⟩, ?_, fun x c e => ?_, ?_, fun x c e => ?_, fun p hp => ?_, hok, I.len⟩
 · exact keep b o (neL b o e) hb (neC b o e hx) (I.base.keep b o e n hb hx) (I.base.free b o e n hx)
 · obtain ⟨sl, e1⟩ := I.base.slot b o e n hb hx
   obtain ⟨sl', e2⟩ := slot b _ (neL b o e) hb (neC b o e hx) e1 (I.base.free b o e n hx)
   exact ⟨sl', e2⟩
 · obtain ⟨o', e1⟩ := I.base.there b o e hx
   exact free b o' (neC b o e hx) e1 (I.base.free b o e n hx)
 · obtain ⟨o', e1⟩ := I.base.there b o e hx
   exact there b o' (neC b o e hx) e1
 · obtain ⟨m1, e1⟩ := I.base.tbls b ps e
   obtain ⟨m2, e2⟩ := tbls b _ e1
   exact ⟨m1 ++ m2, by rw [e2, Array.append_assoc]⟩
 · obtain ⟨m, hn, hl⟩ := I.loc
   refine ⟨m, ns m hn, fun i x v e1 e2 e3 => ?_⟩
   obtain ⟨u, r, l⟩ := hl i x v e1 e2 e3
   refine ⟨u, r, ?_⟩
   rcases l with l | ⟨k, c, e, z⟩
   · exact .inl l
   · exact .inr ⟨k, c, e, cellK x c e _ z⟩
 · obtain ⟨v, z⟩ := I.cell x c e
   exact ⟨v, cellK x c e v z⟩
 · obtain ⟨m, ⟨o, _, _, ho, _⟩, _⟩ := I.loc
   exact free _ o (fun z => (hch _ z).2.1 rfl) ho I.free
 · obtain ⟨v, o, ho, hd⟩ := I.cell x c e
   exact free c o (fun z => (hch c z).2.2.1 x c e rfl) ho (I.freeC x c e)
 · obtain ⟨e, n, ne, nf, d⟩ := I.pin p hp
   have nch : p.1 ∉ ch := fun z => (hch p.1 z).2.2.2 p hp rfl
   exact ⟨keep p.1 p.2 ne nf nch e n, free p.1 p.2 nch e n, ne, nf, d⟩
theorem Inv.un {t' : Nat} (I : Inv X pins σ H s) (u : Un X.fs [] H H' s.heap h') (hok : HOk X.prog X.w H' h') : Inv X pins σ H' { s with heap := h', toks := t' } := by
 obtain ⟨m, ⟨o, es, ep, ho, r⟩, _⟩ := id I.loc
 obtain ⟨sl, hL⟩ := u.any ho I.free (by simp)
 exact I.step (g' := s.gens) (d' := s.drawn) (ch := []) (fun _ z => nomatch z) (fun b o _ hb _ e n => u.keep b o e n hb (by simp)) (fun b o _ hb _ e n => u.slot b o e n hb (by simp)) (fun b o _ e n => u.free b o e n (by simp)) (fun b o _ e => u.there b o e (by simp)) u.tups u.frzs u.tbls (fun m' hm => by
   obtain ⟨o', es', ep', ho', r'⟩ := hm
   rw [ho] at ho'; cases ho'
   exact ⟨_, es', ep', hL, r'⟩) hok I.bare
theorem Inv.call {g' : Array GenState} {t' : Nat} {d' : Drawn} {ch : List Addr} (I : Inv X pins σ H s) (u : Un (frs X.stack) ch H H' s.heap h') (hok : HOk X.prog X.w H' h') (hg : AllBare g')
   (hch : ∀ b ∈ ch, (b ∈ X.ex ∨ X.s₀.heap.objs.size ≤ b) ∧ b ≠ X.env.locals ∧ (∀ x c, X.env.cells.lookup x = some c → c ≠ b) ∧ ∀ p ∈ X.pn ++ pins, p.1 ≠ b) :
   Inv X pins σ H' { s with heap := h', gens := g', drawn := d', toks := t' } := by
 obtain ⟨m, ⟨o, es, ep, ho, r⟩, _⟩ := id I.loc
 obtain ⟨sl, hL⟩ := u.any ho I.free fun z => (hch _ z).2.1 rfl
 exact I.step (ch := ch) hch (fun b o hL hb hc e n => u.keep b o e n (fun z => (List.mem_cons.mp (I.stkSub b z)).elim hL hb) hc) (fun b o _ _ hc e n => u.any e n hc) (fun b o hc e n => u.free b o e n hc) (fun b o hc e => u.there b o e hc) u.tups u.frzs u.tbls (fun m' hm => by
   obtain ⟨o', es', ep', ho', r'⟩ := hm
   rw [ho] at ho'; cases ho'
   exact ⟨_, es', ep', hL, r'⟩) hok hg
theorem Inv.turned {t' : Nat} {it : Addr} (I : Inv X pins σ H s) (k : ∀ b o, b ≠ it → s.heap.get? b = some o → h'.get? b = some o) (hn : H it = none) (hL : it ≠ X.env.locals)
   (h1 : it ∈ X.ex ∨ X.s₀.heap.objs.size ≤ it) (h2 : ∀ x c, X.env.cells.lookup x = some c → c ≠ it) (h3 : ∀ p ∈ X.pn ++ pins, p.1 ≠ it) : Inv X pins σ H { s with heap := h', toks := t' } := by
 have nit : ∀ b u, H b = some u → b ≠ it := fun b u e z => by rw [z, hn] at e; cases e
 refine I.step (g' := s.gens) (d' := s.drawn) (ch := [it]) (fun b hb => ?_) (fun b o _ _ hc e _ => k b o (fun z => hc (by simp [z])) e) (fun b o _ _ hc e _ => ⟨o.slots, k b o (fun z => hc (by simp [z])) e⟩) (fun _ _ _ _ n => n)
   (fun b o hc e => ⟨o, k b o (fun z => hc (by simp [z])) e⟩) (fun _ _ e => e) (fun _ _ _ e => e) (fun b ps e => ⟨#[], by rw [e]; simp⟩) (fun m hm => ?_) (fun b u e => ?_) I.bare
 · have e : b = it := by simpa using hb
   subst e
   exact ⟨h1, hL, h2, h3⟩
 · obtain ⟨o, es, ep, ho, r⟩ := hm
   exact ⟨o, es, ep, k _ o (Ne.symm hL) ho, r⟩
 · refine (I.hok b u e).stay (fun c v hc q => k c v ?_ q) (fun _ q => q) fun _ _ q => q
   rcases hc with z | z
   · rw [z]; exact nit b u e
   · exact nit c _ z
theorem Inv.tok (I : Inv X pins σ H s) (t : Nat) : Inv X pins σ H { s with toks := t } := I.un (h' := s.heap) (t' := t) Un.refl I.hok
theorem Inv.kept {t' : Nat} (I : Inv X pins σ H s) (k : ∀ b u, s.heap.get? b = some u → h'.get? b = some u) : Inv X pins σ H { s with heap := h', toks := t' } := I.un (Un.kept k) (I.hok.kept k)
theorem Inv.laid {a : Addr} {o : HO} {t' : Nat} (I : Inv X pins σ H s) (k : ∀ b u, s.heap.get? b = some u → h'.get? b = some u) (hp : s.heap.objs.size ≤ a) (new : ObjOk X.prog X.w (upd H a o) h' a o) :
   Inv X pins σ (upd H a o) { s with heap := h', toks := t' } := I.un (Un.laid k hp (I.hok.fresh hp)) (I.hok.laid k hp new)
theorem Inv.write {x e : Addr} {o : HO} {t' : Nat} (I : Inv X pins σ H s) (mu : Mut (H x)) (he : e = x ∨ H e = some (.own x)) (k : ∀ b u, b ≠ e → s.heap.get? b = some u → h'.get? b = some u) (heo : ∃ u, h'.get? e = some u)
   (new : ObjOk X.prog X.w (upd H x o) h' x o) : Inv X pins σ (upd H x o) { s with heap := h', toks := t' } := I.un (Un.write mu he k heo) (I.hok.write mu he k heo new)
theorem Inv.weak {σ' : List (Option V)} (I : Inv X pins σ H s) (hl : σ'.length = σ.length) (w : ∀ (i : Nat) v, σ'[i]? = some (some v) → σ[i]? = some (some v)) : Inv X pins σ' H s :=
 ⟨I.ok, I.os, I.bare, I.base, let ⟨m, hn, hl'⟩ := I.loc; ⟨m, hn, fun i x v e1 e2 e3 => hl' i x v e1 (w i v e2) e3⟩, I.cell, I.free, I.freeC, I.pin, I.hok, hl.trans I.len⟩
theorem Inv.pins_of {pins' : List (Addr × Obj)} (I : Inv X pins σ H s) (h : ∀ p ∈ pins', s.heap.get? p.1 = some p.2 ∧ H p.1 = none ∧ p.1 ≠ X.env.locals ∧ p.1 ∉ X.fs ∧ ∀ v, p.2.data ≠ .cell v) : Inv X pins' σ H s :=
 ⟨I.ok, I.os, I.bare, I.base, I.loc, I.cell, I.free, I.freeC, fun p hp => (List.mem_append.mp hp).elim (fun z => I.pin p (List.mem_append_left _ z)) (h p), I.hok, I.len⟩
theorem nodup_ix {N : List Str} (hN : N.Nodup) {i j : Nat} {x : Str} (a : N[i]? = some x) (b : N[j]? = some x) : i = j := by
 obtain ⟨h1, e1⟩ := List.getElem?_eq_some_iff.mp a
 obtain ⟨h2, e2⟩ := List.getElem?_eq_some_iff.mp b
 exact (List.getElem_inj hN).mp (e1.trans e2.symm)
theorem store_ok2 {M : Model} {A : Around} {E : Value → Shared → Prop} {i : Nat} {x : Str} {v : V} {u : Value} {Q : Unit → Shared → Prop} (I : Inv X pins σ H s) (hN : X.N.Nodup) (hi : X.N[i]? = some x) (hx : Loc X.env.scope x) (r : RelV v u)
   (h : ∀ s', Inv X pins (σ.set i (some v)) H s' → (∃ a, Heap.SameBut a s.heap s'.heap ∧ (a = X.env.locals ∨ X.env.cells.lookup x = some a)) → Q () s') (hf : X.fn x = true ∨ X.env.scope.names.lookup x = some .local := by first | exact .inl rfl | exact .inr rfl | assumption) : wpAny M A (storeName X.env x u) Q E s := by
 obtain ⟨m, hn, hl⟩ := id I.loc
 have hcls : (X.env.scope.kind == .class || (X.env.scope.kind == .module && X.env.locals != X.env.globals)) = false := by rw [I.ok.kind]; rfl
 have hiσ : i < σ.length := by rw [I.len]; exact (List.getElem?_eq_some_iff.mp hi).1
 have cne := I.cne
 have tracked : ∀ {a : Addr} {h' : Heap}, (∃ o, s.heap.get? a = some o ∧ H a = none) → Heap.SameBut a s.heap h' → HOk X.prog X.w H h' := fun {a h'} ha hs b ob e => by
   obtain ⟨_, _, hfree⟩ := ha
   refine (I.hok b ob e).stay (fun c w' hc q => (hs.2 c ?_).trans q) (fun _ q => q) fun _ _ q => q
   rintro rfl
   rcases hc with rfl | hc
   · rw [hfree] at e; cases e
   · rw [hfree] at hc; cases hc
 rcases hx with hk | hk
 · refine wpAny_storeName_local hk hn (fun h' hn' hs => ?_) hcls
   obtain ⟨oL, _, _, hoL, _⟩ := id hn
   refine h _ ⟨I.ok, I.os, I.bare, ⟨fun b o e n hb hx => ?_, fun b o e n hb hx => ?_, I.base.free, fun b o e hx => ?_, I.base.tups, I.base.frzs, I.base.tbls⟩, ⟨_, hn', fun j y v' e1 e2 e3 => ?_⟩, fun y c e => ?_, I.free, I.freeC, fun p hp => ?_, tracked ⟨oL, hoL, I.free⟩ hs, by simpa using I.len⟩ ⟨_, hs, .inl rfl⟩
   · exact (hs.2 b (Nat.ne_of_lt (Nat.lt_of_lt_of_le (Heap.lt_size e) I.ok.above))).trans (I.base.keep b o e n hb hx)
   · obtain ⟨sl, e1⟩ := I.base.slot b o e n hb hx
     exact ⟨sl, (hs.2 b (Nat.ne_of_lt (Nat.lt_of_lt_of_le (Heap.lt_size e) I.ok.above))).trans e1⟩
   · obtain ⟨o', e1⟩ := I.base.there b o e hx
     exact ⟨o', (hs.2 b (Nat.ne_of_lt (Nat.lt_of_lt_of_le (Heap.lt_size e) I.ok.above))).trans e1⟩
   · by_cases hj : j = i
     · subst hj
       rw [hi] at e1; cases e1
       rw [List.getElem?_set_self hiσ] at e2
       cases e2
       exact ⟨u, r, .inl ⟨hk, by simp⟩⟩
     · rw [List.getElem?_set_ne (Ne.symm hj)] at e2
       obtain ⟨u', r', q⟩ := hl j y v' e1 e2 e3
       refine ⟨u', r', ?_⟩
       rcases q with ⟨k, e⟩ | ⟨k, c, e, z⟩
       · refine .inl ⟨k, ?_⟩
         have : y ≠ x := fun e => hj (nodup_ix hN e1 (e ▸ hi))
         simp [this, e]
       · exact .inr ⟨k, c, e, z.sameBut hs (cne y c e)⟩
   · obtain ⟨w', z⟩ := I.cell y c e
     exact ⟨w', z.sameBut hs (cne y c e)⟩
   · obtain ⟨e, n, ne, nf, d⟩ := I.pin p hp
     exact ⟨(hs.2 p.1 ne).trans e, n, ne, nf, d⟩
 · have hfn : X.fn x = true := by
     rcases hf with z | z
     · exact z
     · rw [z] at hk; cases hk
   obtain ⟨c, hc⟩ := I.ok.has x (.inl hk)
   obtain ⟨w', z⟩ := I.cell x c hc
   refine wpAny_storeName_cell I.ok.kind hk hc z (fun h' hc' hs => ?_)
   obtain ⟨oc, hoc, hocd⟩ := id z
   refine h { s with heap := h' } ⟨I.ok, I.os, I.bare, ⟨fun b o e n hb hx => ?_, fun b o e n hb hx => ?_, I.base.free, fun b o e hx => ?_, I.base.tups, I.base.frzs, I.base.tbls⟩, ⟨m, hn.sameBut hs (Ne.symm (cne x c hc)), fun j y v' e1 e2 e3 => ?_⟩, fun y c' e => ?_, I.free, I.freeC, fun p hp => ?_, tracked ⟨oc, hoc, I.freeC x c hc⟩ hs, by simpa using I.len⟩ ⟨c, hs, .inr hc⟩
   · exact (hs.2 b (Nat.ne_of_lt (Nat.lt_of_lt_of_le (Heap.lt_size e) (I.ok.cab x c hfn hc)))).trans (I.base.keep b o e n hb hx)
   · obtain ⟨sl, e1⟩ := I.base.slot b o e n hb hx
     exact ⟨sl, (hs.2 b (Nat.ne_of_lt (Nat.lt_of_lt_of_le (Heap.lt_size e) (I.ok.cab x c hfn hc)))).trans e1⟩
   · obtain ⟨o', e1⟩ := I.base.there b o e hx
     exact ⟨o', (hs.2 b (Nat.ne_of_lt (Nat.lt_of_lt_of_le (Heap.lt_size e) (I.ok.cab x c hfn hc)))).trans e1⟩
   · by_cases hj : j = i
     · subst hj
       rw [hi] at e1; cases e1
       rw [List.getElem?_set_self hiσ] at e2
       cases e2
       exact ⟨u, r, .inr ⟨.inl hk, c, hc, hc'⟩⟩
     · rw [List.getElem?_set_ne (Ne.symm hj)] at e2
       obtain ⟨u', r', q⟩ := hl j y v' e1 e2 e3
       refine ⟨u', r', ?_⟩
       rcases q with q | ⟨k, c', e, z'⟩
       · exact .inl q
       · refine .inr ⟨k, c', e, z'.sameBut hs ?_⟩
         rintro rfl
         exact hj (nodup_ix hN e1 (I.ok.inj _ _ _ e hc ▸ hi))
   · by_cases hcc : c' = c
     · subst hcc; exact ⟨_, hc'⟩
     · obtain ⟨w2, z2⟩ := I.cell y c' e
       exact ⟨w2, z2.sameBut hs hcc⟩
   · obtain ⟨e, n, ne, nf, d⟩ := I.pin p hp
     refine ⟨(hs.2 p.1 ?_).trans e, n, ne, nf, d⟩
     intro q
     rw [q, hoc] at e
     have q' : oc = p.2 := Option.some.inj e
     exact d w' (by rw [← q']; exact hocd)
theorem store_ok {M : Model} {A : Around} {E : Value → Shared → Prop} {i : Nat} {x : Str} {v : V} {u : Value} {Q : Unit → Shared → Prop} (I : Inv X pins σ H s) (hN : X.N.Nodup) (hi : X.N[i]? = some x) (hx : Loc X.env.scope x) (r : RelV v u)
   (h : ∀ s', Inv X pins (σ.set i (some v)) H s' → Q () s') (hf : X.fn x = true ∨ X.env.scope.names.lookup x = some .local := by first | exact .inl rfl | exact .inr rfl | assumption) : wpAny M A (storeName X.env x u) Q E s :=
 store_ok2 I hN hi hx r (fun s' I' _ => h s' I') hf
theorem Inv.call' {s' : Shared} {ch : List Addr} (I : Inv X pins σ H s) (ho : s'.os = s.os) (u : Un (frs X.stack) ch H H' s.heap s'.heap) (hok : HOk X.prog X.w H' s'.heap) (hg : AllBare s'.gens)
   (hch : ∀ b ∈ ch, (b ∈ X.ex ∨ X.s₀.heap.objs.size ≤ b) ∧ b ≠ X.env.locals ∧ (∀ x c, X.env.cells.lookup x = some c → c ≠ b) ∧ ∀ p ∈ X.pn ++ pins, p.1 ≠ b) : Inv X pins σ H' s' := by
 obtain ⟨h', g', d', t', o'⟩ := s'
 have e : o' = s.os := ho
 subst e
 exact I.call (g' := g') (t' := t') (d' := d') u hok hg hch
end
noncomputable abbrev XK := Value → Option Addr → Hp → Prop
noncomputable abbrev St := List (Option V)
noncomputable abbrev VK := V → Hp → Prop
noncomputable abbrev TE := St → Hp → VK → Prop
noncomputable abbrev TT := St → Hp → (Bool → Hp → Prop) → Prop
noncomputable abbrev TA := St → Hp → (List V → Hp → Prop) → Prop
structure Ends where
 nx : St → Hp → Prop
 rt : VK
 bk : St → Hp → Prop := fun _ _ => False
 ct : St → Hp → Prop := fun _ _ => False
noncomputable abbrev TS := Ends → St → Hp → Prop
noncomputable def EP (X : Cx) (pins : List (Addr × Obj)) (σ : St) (Q : VK) (u : Value) (s' : Shared) : Prop := ∃ v H', Inv X pins σ H' s' ∧ RelV v u ∧ Q v H'
noncomputable def TP (X : Cx) (pins : List (Addr × Obj)) (σ : St) (Q : Bool → Hp → Prop) (b : Bool) (s' : Shared) : Prop := ∃ H', Inv X pins σ H' s' ∧ Q b H'
noncomputable def AP (X : Cx) (pins : List (Addr × Obj)) (σ : St) (Q : List V → Hp → Prop) (us : List Value) (s' : Shared) : Prop := ∃ vs H', Inv X pins σ H' s' ∧ Vals vs us ∧ Q vs H'
noncomputable def SP (X : Cx) (pins : List (Addr × Obj)) (D : Ends) (f : Flow) (s' : Shared) : Prop :=
 match f with
 | .next => ∃ σ' H', Inv X pins σ' H' s' ∧ D.nx σ' H'
 | .brk => ∃ σ' H', Inv X pins σ' H' s' ∧ D.bk σ' H'
 | .cont => ∃ σ' H', Inv X pins σ' H' s' ∧ D.ct σ' H'
 | .ret u => ∃ v σ' H', Inv X pins σ' H' s' ∧ RelV v u ∧ D.rt v H'
noncomputable def PE (X : Cx) (e : Expr) (t : TE) : Prop :=
 ∀ (pins : List (Addr × Obj)) (s : Shared) (σ : St) (H : Hp) (Q : VK), Inv X pins σ H s → t σ H Q → wpAny (model X.prog X.w) X.A (eval e X.env) (EP X pins σ Q) X.xe s
noncomputable def PT (X : Cx) (e : Expr) (t : TT) : Prop :=
 ∀ (pins : List (Addr × Obj)) (s : Shared) (σ : St) (H : Hp) (Q : Bool → Hp → Prop), Inv X pins σ H s → t σ H Q → wpAny (model X.prog X.w) X.A (isTrue e X.env (eval e X.env)) (TP X pins σ Q) X.xe s
noncomputable def PW (X : Cx) (e : Expr) (t : TT) : Prop :=
 ∀ (whole : Sem Value) (pins : List (Addr × Obj)) (s : Shared) (σ : St) (H : Hp) (Q : Bool → Hp → Prop), Inv X pins σ H s → t σ H Q → wpAny (model X.prog X.w) X.A (isTrue e X.env whole) (TP X pins σ Q) X.xe s
theorem PW.pt {X : Cx} {e : Expr} {t : TT} (h : PW X e t) : PT X e t := h _
noncomputable def PA (X : Cx) (es : List Expr) (t : TA) : Prop :=
 ∀ (pos : Pos) (pins : List (Addr × Obj)) (s : Shared) (σ : St) (H : Hp) (Q : List V → Hp → Prop), Inv X pins σ H s → t σ H Q → wpAny (model X.prog X.w) X.A (spliced (backTo pos (starEach es X.env))) (AP X pins σ Q) X.xe s
noncomputable def PS (X : Cx) (st : Stmt) (t : TS) : Prop :=
 ∀ (pins : List (Addr × Obj)) (s : Shared) (σ : St) (H : Hp) (D : Ends), Inv X pins σ H s → t D σ H → wpAny (model X.prog X.w) X.A (exec st X.env) (SP X pins D) X.xe s
noncomputable def PSs (X : Cx) (st : List Stmt) (t : TS) : Prop :=
 ∀ (pins : List (Addr × Obj)) (s : Shared) (σ : St) (H : Hp) (D : Ends), Inv X pins σ H s → t D σ H → wpAny (model X.prog X.w) X.A (execs st X.env) (SP X pins D) X.xe s
theorem thn {α : Type} {t : Sem α} {Q Q' : α → Shared → Prop} {M : Model} {A : Around} {E : Value → Shared → Prop} {s : Shared} (h : wpAny M A t Q E s) (hQ : ∀ a s, Q a s → Q' a s) : wpAny M A t Q' E s := wpAny_mono h hQ fun _ _ x => x
end L2
namespace L2
open PySem PySem.Spec PyProof.Rows
section
variable {X : Cx}
noncomputable def tVar (i : Nat) : TE := fun σ H Q => ∃ v, σ[i]? = some (some v) ∧ Q v H
noncomputable def tC (v : V) : TE := fun _ H Q => Q v H
theorem pe_var {i : Nat} {x : Str} {pos : Pos} (hN : X.N[i]? = some x) (hv : Vis X.env.scope x) (hd : (x == ("__debug__" : Str)) = false := by decide) (hcd : (x == ("__classdict__" : Str)) = false := by decide) : PE X (.Name x pos) (tVar i) := by
 intro pins s σ H Q I h
 obtain ⟨v, e, h⟩ := h
 obtain ⟨m, hn, hl⟩ := I.loc
 obtain ⟨u, r, l⟩ := hl i x v hN e hv
 have fin : EP X pins σ Q u s := ⟨v, H, I, r, h⟩
 rcases l with ⟨hk, hm⟩ | ⟨hk, c, hc, hcell⟩
 · exact wpAny_Name (wpAny_loadName_local I.ok.kind hk hn hm fin) hd
 · rcases hk with hk | hk
   · exact wpAny_Name (wpAny_loadName_cell I.ok.kind hk hc hcell fin) hd
   · exact wpAny_Name (wpAny_loadName_free I.ok.kind hk hc hcell fin hcd) hd
theorem pe_int {i j pos} : PE X (.Constant (.int i) j pos) (tC (.int i)) := fun _ _ _ H _ I h => wpAny_Constant_int ⟨.int i, H, I.tok _, ⟨_, rfl⟩, h⟩
theorem pe_bl {b j pos} : PE X (.Constant (.bool b) j pos) (tC (.bl b)) := fun _ _ _ H _ I h => Constant_bool ⟨.bl b, H, I, rfl, h⟩
theorem pe_str {x j pos} : PE X (.Constant (.str x) j pos) (tC (.str x)) := fun _ _ _ H _ I h => Calls.Constant_str ⟨.str x, H, I.tok _, ⟨_, rfl⟩, h⟩
noncomputable def Gl (X : Cx) (x : Str) : Prop := X.env.kindOf x = some .globalImplicit
theorem ld_glob {E : Value → Shared → Prop} {pins : List (Addr × Obj)} {s : Shared} {σ : St} {H : Hp} {x : Str} {u : Value} {pos : Pos} {Q : Value → Shared → Prop} (I : Inv X pins σ H s) (hg : Gl X x) (hm : X.mg x = some u) (h : Q u s)
   (hd : (x == ("__debug__" : Str)) = false := by decide) : wpAny (model X.prog X.w) X.A (eval (.Name x pos) X.env) Q E s :=
 Calls.Name_function_global I.ok.kind hg (Calls.loadGlobal_global (by rw [I.ok.glob]; exact I.mod.glob.keeps I.bk) hm h) hd
theorem ld_blt {E : Value → Shared → Prop} {pins : List (Addr × Obj)} {s : Shared} {σ : St} {H : Hp} {x : Str} {u : Value} {pos : Pos} {Q : Value → Shared → Prop} (I : Inv X pins σ H s) (hg : Gl X x) (hm : X.mg x = none) (hv : bootBuiltins x = some u) (h : Q u s)
   (hn : x ≠ "__name__" := by decide) (hd : (x == ("__debug__" : Str)) = false := by decide) : wpAny (model X.prog X.w) X.A (eval (.Name x pos) X.env) Q E s := by
 obtain ⟨mb, h1, h2⟩ := I.mod.blt
 exact Calls.Name_function_global I.ok.kind hg (Calls.loadGlobal_builtin (by rw [I.ok.glob]; exact I.mod.glob.keeps I.bk) hm (by rw [I.ok.blt]; exact h1.keeps I.bk) ((h2 x hn).trans hv) h) hd
theorem pe_glob {x : Str} {v : V} {u : Value} {pos : Pos} (hg : Gl X x) (hm : X.mg x = some u) (r : RelV v u) (hd : (x == ("__debug__" : Str)) = false := by decide) : PE X (.Name x pos) (tC v) :=
 fun _ _ _ H _ I h => ld_glob I hg hm ⟨v, H, I, r, h⟩ hd
variable {a b : Expr} {ta tb : TE} {pos : Pos}
variable {tA tB' : TT} {rest : List Expr}
noncomputable def tAnd (t u : TT) : TT := fun σ H Q => t σ H fun c H1 => if c = true then u σ H1 Q else Q false H1
noncomputable def tOr (t u : TT) : TT := fun σ H Q => t σ H fun c H1 => if c = true then Q true H1 else u σ H1 Q
noncomputable def tNot (t : TT) : TT := fun σ H Q => t σ H fun c H1 => Q (!c) H1
theorem pw_and1 (ha : PT X a tA) : PW X (.BoolOp .And [a] pos) tA := by
 intro wh pins s σ H Q I h
 refine isTrue_and (thn (ha pins s σ H Q I h) fun c s1 e => ?_)
 cases c with
 | true => exact isTrue_and_nil e
 | false => exact e
theorem pw_or1 (ha : PT X a tA) : PW X (.BoolOp .Or [a] pos) tA := by
 intro wh pins s σ H Q I h
 refine isTrue_or (thn (ha pins s σ H Q I h) fun c s1 e => ?_)
 cases c with
 | false => exact isTrue_or_nil e
 | true => exact e
theorem pw_and (ha : PT X a tA) (hb : PW X (.BoolOp .And (b :: rest) pos) tB') : PW X (.BoolOp .And (a :: b :: rest) pos) (tAnd tA tB') := by
 intro wh pins s σ H Q I h
 refine isTrue_and (thn (ha pins s σ H _ I h) fun c s1 ⟨H1, I1, q1⟩ => ?_)
 cases c with
 | true => exact hb wh pins s1 σ H1 Q I1 q1
 | false => exact ⟨H1, I1, q1⟩
theorem pw_or (ha : PT X a tA) (hb : PW X (.BoolOp .Or (b :: rest) pos) tB') : PW X (.BoolOp .Or (a :: b :: rest) pos) (tOr tA tB') := by
 intro wh pins s σ H Q I h
 refine isTrue_or (thn (ha pins s σ H _ I h) fun c s1 ⟨H1, I1, q1⟩ => ?_)
 cases c with
 | true => exact ⟨H1, I1, q1⟩
 | false => exact hb wh pins s1 σ H1 Q I1 q1
theorem pt_not (ha : PT X a tA) : PT X (.UnaryOp .Not a pos) (tNot tA) := by
 intro pins s σ H Q I h
 exact isTrue_not (ha pins s σ H (fun c H1 => Q (!c) H1) I h)
noncomputable def tOrV (ta tb : TE) : TE := fun σ H Q => ta σ H fun x H1 => ∃ c, x = .bl c ∧ if c = true then Q (.bl true) H1 else tb σ H1 Q
theorem pe_one {op} {t : TE} (h : PE X a t) : PE X (.BoolOp op [a] pos) t := fun pins s σ H Q I hw => BoolOp_one (h pins s σ H Q I hw)
theorem pe_or (ha : PE X a ta) (hb : PE X (.BoolOp .Or (b :: rest) pos) tb) : PE X (.BoolOp .Or (a :: b :: rest) pos) (tOrV ta tb) := by
 intro pins s σ H Q I h
 refine BoolOp_or (thn (ha pins s σ H _ I h) fun v s1 ⟨x, H1, I1, r1, q1⟩ => ?_)
 obtain ⟨c, rfl, q1⟩ := q1
 cases r1
 refine wpAny_truthy_bool ?_
 cases c with
 | false => exact hb pins s1 σ H1 Q I1 q1
 | true => exact ⟨.bl true, H1, I1, rfl, q1⟩
end
end L2
namespace L2
open PySem PySem.Spec PyProof.Rows
noncomputable def SqL (K : PySem.W.Frag) (H : Hp) (a : Addr) (xs : List V) : Prop :=
 Rd H a (.lst xs) ∨
   ∃ (o : Obj) (its : Array Value) (n : Nat), K.lookup a = some o ∧ o.cls = .type "list" ∧ o.dict = none ∧ o.data = .seq its n ∧ its.size ≤ sizeLine ∧ Vals xs its.toList
noncomputable def SqT (K : PySem.W.Frag) (H : Hp) (a : Addr) (xs : List V) : Prop :=
 Rd H a (.tup xs) ∨
   ∃ (o : Obj) (its : Array Value) (n : Nat), K.lookup a = some o ∧ o.cls = .type "tuple" ∧ o.dict = none ∧ o.data = .seq its n ∧ its.size ≤ sizeLine ∧ Vals xs its.toList
noncomputable def absV : Value → Option V
 | .none => some .non
 | .bool b => some (.bl b)
 | .int i _ => some (.int i)
 | .str x _ => some (.str x)
 | .bytes b _ => some (.byt b)
 | .float b _ => some (.flt b)
 | .ref a => some (.ref a)
 | .type n => some (.ty n)
 | _ => none
theorem RelV.abs {x : V} {u : Value} (r : RelV x u) : absV u = some x := by
 cases x with
 | non => cases r; rfl
 | bl _ => cases r; rfl
 | int _ => obtain ⟨t, rfl⟩ := r; rfl
 | str _ => obtain ⟨t, rfl⟩ := r; rfl
 | byt _ => obtain ⟨t, rfl⟩ := r; rfl
 | flt _ => obtain ⟨t, rfl⟩ := r; rfl
 | ref _ => cases r; rfl
 | ty _ => cases r; rfl
theorem RelV.inj {x y : V} {u : Value} (r : RelV x u) (q : RelV y u) : x = y := Option.some.inj (r.abs.symm.trans q.abs)
theorem Vals.inj : ∀ {xs ys : List V} {us : List Value}, Vals xs us → Vals ys us → xs = ys
 | _, _, _, .nil, .nil => rfl
 | _, _, _, .cons r t, .cons r' t' => by rw [r.inj r', Vals.inj t t']
section
variable {X : Cx} {pins : List (Addr × Obj)} {σ : St} {H : Hp} {s : Shared} {a : Addr} {xs ys : List V}
theorem SqL.of {K : PySem.W.Frag} (h : H a = some (.lst xs)) : SqL K H a xs := .inl (.inl h)
theorem SqT.of {K : PySem.W.Frag} (h : H a = some (.tup xs)) : SqT K H a xs := .inl (.inl h)
theorem Inv.list (I : Inv X pins σ H s) (h : SqL X.K H a xs) : ∃ its : List Value, Vals xs its ∧ PlainL s.heap a its.toArray ∧ xs.length ≤ sizeLine := by
 rcases h with h | ⟨o, its, n, hk, hc, hd, hs, hz, r⟩
 · obtain ⟨z, its, n, r, e⟩ := h.ok I.hok
   exact ⟨its, r, ⟨_, n, e, rfl, rfl, rfl⟩, z⟩
 · refine ⟨its.toList, r, ⟨o, n, I.kIn a o hk, hc, hd, by simpa using hs⟩, ?_⟩
   have e := r.length
   simp only [Array.length_toList] at e
   lia
theorem Inv.tuple (I : Inv X pins σ H s) (h : SqT X.K H a xs) : ∃ its : List Value, Vals xs its ∧ IsTup s.heap a its.toArray ∧ xs.length ≤ sizeLine := by
 rcases h with h | ⟨o, its, n, hk, hc, hd, hs, hz, r⟩
 · obtain ⟨z, its, r, p⟩ := h.ok I.hok
   exact ⟨its, r, p.t, z⟩
 · refine ⟨its.toList, r, ⟨o, I.kIn a o hk, hc, n, by simpa using hs⟩, ?_⟩
   have e := r.length
   simp only [Array.length_toList] at e
   lia
theorem Inv.tuple0 (I : Inv X pins σ H s) (h : SqT X.K H a xs) : ∃ its : List Value, Vals xs its ∧ IsTup0 s.heap a its.toArray ∧ xs.length ≤ sizeLine := by
 rcases h with h | ⟨o, its, n, hk, hc, hd, hs, hz, r⟩
 · obtain ⟨z, its, r, p⟩ := h.ok I.hok
   exact ⟨its, r, p, z⟩
 · refine ⟨its.toList, r, ⟨o, I.kIn a o hk, hc, hd, n, by simpa using hs⟩, ?_⟩
   have e := r.length
   simp only [Array.length_toList] at e
   lia
theorem Inv.list_inj (I : Inv X pins σ H s) (h : SqL X.K H a xs) (h' : SqL X.K H a ys) : xs = ys := by
 obtain ⟨its, r, ⟨o, n, e, _, _, d⟩, _⟩ := I.list h
 obtain ⟨its', r', ⟨o', n', e', _, _, d'⟩, _⟩ := I.list h'
 rw [e] at e'; cases e'
 rw [d] at d'
 injection d' with d1 _
 have : its = its' := by simpa using congrArg Array.toList d1
 subst this
 exact r.inj r'
theorem Inv.tuple_inj (I : Inv X pins σ H s) (h : SqT X.K H a xs) (h' : SqT X.K H a ys) : xs = ys := by
 obtain ⟨its, r, ⟨o, e, _, n, d⟩, _⟩ := I.tuple h
 obtain ⟨its', r', ⟨o', e', _, n', d'⟩, _⟩ := I.tuple h'
 rw [e] at e'; cases e'
 rw [d] at d'
 injection d' with d1 _
 have : its = its' := by simpa using congrArg Array.toList d1
 subst this
 exact r.inj r'
end
noncomputable abbrev Cx.wish (X : Cx) (E : Value → Shared → Prop) : Cx := { X with xe := E }
noncomputable abbrev Cx.nox (X : Cx) : Cx := X.wish fun _ _ => False
theorem Cx.Ok.wish {X : Cx} (ok : X.Ok) (E : Value → Shared → Prop) : (X.wish E).Ok :=
 ⟨ok.mod, ok.kind, ok.glob, ok.blt, ok.above, ok.inj, ok.has, ok.cab, ok.hd, ok.frames, ok.stk, ok.exf, ok.bs, ok.bsz, ok.noex, ok.exfs, ok.funs, ok.frf⟩
theorem Cx.Ok.unwish {X : Cx} {E : Value → Shared → Prop} (ok : (X.wish E).Ok) : X.Ok :=
 ⟨ok.mod, ok.kind, ok.glob, ok.blt, ok.above, ok.inj, ok.has, ok.cab, ok.hd, ok.frames, ok.stk, ok.exf, ok.bs, ok.bsz, ok.noex, ok.exfs, ok.funs, ok.frf⟩
section
variable {X : Cx} {pins : List (Addr × Obj)} {σ : St} {H : Hp} {s : Shared} {E : Value → Shared → Prop}
theorem Inv.wish (I : Inv X pins σ H s) (E : Value → Shared → Prop) : Inv (X.wish E) pins σ H s := ⟨I.ok.wish E, I.os, I.bare, I.base, I.loc, I.cell, I.free, I.freeC, I.pin, I.hok, I.len⟩
theorem Inv.unwish (I : Inv (X.wish E) pins σ H s) : Inv X pins σ H s := ⟨I.ok.unwish, I.os, I.bare, I.base, I.loc, I.cell, I.free, I.freeC, I.pin, I.hok, I.len⟩
theorem SP.unwish {D : Ends} {f : Flow} {s' : Shared} (h : SP (X.wish E) pins D f s') : SP X pins D f s' := by
 cases f with
 | next => obtain ⟨σ', H', I, q⟩ := h; exact ⟨σ', H', I.unwish, q⟩
 | brk => obtain ⟨σ', H', I, q⟩ := h; exact ⟨σ', H', I.unwish, q⟩
 | cont => obtain ⟨σ', H', I, q⟩ := h; exact ⟨σ', H', I.unwish, q⟩
 | ret u => obtain ⟨v, σ', H', I, r, q⟩ := h; exact ⟨v, σ', H', I.unwish, r, q⟩
theorem PSs.nox {st : List Stmt} {t : TS} (h : PSs X.nox st t) : PSs X st t := fun pins s σ H D I hw =>
 wpAny_mono (h pins s σ H D (I.wish _) hw) (fun _ _ q => q.unwish) fun _ _ z => False.elim z
end
section
variable {X : Cx} {st : Stmt} {rest : List Stmt} {t u : TS} {e : Expr} {te : TE} {pos : Pos}
noncomputable def tNext : TS := fun D σ H => D.nx σ H
noncomputable def tSeq (t u : TS) : TS := fun D σ H => t { D with nx := u D } σ H
theorem pss_nil : PSs X [] tNext := fun _ _ σ H _ I h => wpAny_execs_nil ⟨σ, H, I, h⟩
theorem pss_cons (h1 : PS X st t) (h2 : PSs X rest u) : PSs X (st :: rest) (tSeq t u) := by
 intro pins s σ H D I h
 refine wpAny_execs_cons (thn (h1 pins s σ H { D with nx := u D } I h) fun f s1 q => ?_)
 cases f with
 | next =>
   obtain ⟨σ', H', I', q⟩ := q
   exact h2 pins s1 σ' H' D I' q
 | ret v => exact q
 | brk => exact q
 | cont => exact q
theorem pss_one (h1 : PS X st t) : PSs X [st] t := by
 intro pins s σ H D I h
 refine wpAny_execs_cons (thn (h1 pins s σ H D I h) fun f s1 q => ?_)
 cases f with
 | next => exact wpAny_execs_nil q
 | ret v => exact q
 | brk => exact q
 | cont => exact q
theorem Inv.quiet {pins : List (Addr × Obj)} {σ : St} {H : Hp} {s : Shared} (I : Inv X pins σ H s) : interactive X.env = false := by simp [interactive, I.ok.kind]
noncomputable def tDrop (te : TE) : TS := fun D σ H => te σ H fun _ H1 => D.nx σ H1
theorem ps_expr (he : PE X e te) (hs : swapsWith e none pos.line X.env = pure false := by rfl) : PS X (.Expr e pos) (tDrop te) := by
 intro pins s σ H D I h
 exact wpAny_Expr_any (thn (he pins s σ H _ I h) fun v s1 ⟨x, H1, I1, r1, q1⟩ => ⟨σ, H1, I1, q1⟩) I.quiet hs
noncomputable def tRet (te : TE) : TS := fun D σ H => te σ H D.rt
theorem ps_ret (he : PE X e te) : PS X (.Return (some e) pos) (tRet te) := by
 intro pins s σ H D I h
 exact wpAny_Return_some (thn (he pins s σ H _ I h) fun v s1 ⟨x, H1, I1, r1, q1⟩ => ⟨x, σ, H1, I1, r1, q1⟩)
noncomputable def tIfS (c : TT) (t u : TS) : TS := fun D σ H => c σ H fun b H1 => if b = true then t D σ H1 else u D σ H1
theorem ps_if {c : Expr} {a b : List Stmt} {tc : TT} (hc : PT X c tc) (ha : PSs X a t) (hb : PSs X b u) : PS X (.If c a b pos) (tIfS tc t u) := by
 intro pins s σ H D I h
 refine wpAny_If (thn (hc pins s σ H _ I h) fun d s1 ⟨H1, I1, q1⟩ => ?_)
 cases d with
 | true => exact ha pins s1 σ H1 D I1 q1
 | false => exact hb pins s1 σ H1 D I1 q1
end
noncomputable abbrev TG := V → St → Hp → (St → Hp → Prop) → Prop
noncomputable abbrev TGs := List V → St → Hp → (St → Hp → Prop) → Prop
noncomputable def PG (X : Cx) (target : Expr) (t : TG) : Prop :=
 ∀ (pins : List (Addr × Obj)) (s : Shared) (σ : St) (H : Hp) (v : V) (u : Value) (Q : St → Hp → Prop), Inv X pins σ H s → RelV v u → t v σ H Q →
   wpAny (model X.prog X.w) X.A (assign target X.env u) (fun _ s' => ∃ σ' H', Inv X pins σ' H' s' ∧ Q σ' H') X.xe s
noncomputable def PGs (X : Cx) (ts : List Expr) (t : TGs) : Prop :=
 ∀ (pins : List (Addr × Obj)) (s : Shared) (σ : St) (H : Hp) (vs : List V) (us : List Value) (Q : St → Hp → Prop), Inv X pins σ H s → Vals vs us → t vs σ H Q →
   wpAny (model X.prog X.w) X.A (assignInOrder ((assignEach ts X.env).map (·.2)) us) (fun _ s' => ∃ σ' H', Inv X pins σ' H' s' ∧ Q σ' H') X.xe s
noncomputable abbrev TSet := V → V → V → Hp → (Hp → Prop) → Prop
noncomputable def PSet (X : Cx) (t : TSet) : Prop :=
 ∀ (pins : List (Addr × Obj)) (s : Shared) (σ : St) (H : Hp) (o i v : V) (ov iv u : Value) (Q : Hp → Prop), Inv X pins σ H s → RelV o ov → RelV i iv → RelV v u → t o i v H Q →
   wpAny (model X.prog X.w) X.A (setItem ov iv u) (fun _ s' => ∃ H', Inv X pins σ H' s' ∧ Q H') X.xe s
noncomputable abbrev TIp := V → V → Hp → VK → Prop
noncomputable def PIp (X : Cx) (op : Operator) (t : TIp) : Prop :=
 ∀ (pins : List (Addr × Obj)) (s : Shared) (σ : St) (H : Hp) (x y : V) (v u : Value) (Q : VK), Inv X pins σ H s → RelV x v → RelV y u → t x y H Q →
   wpAny (model X.prog X.w) X.A (inplaceOp op v u) (EP X pins σ Q) X.xe s
section
variable {X : Cx} {pos : Pos}
noncomputable def gName (i : Nat) : TG := fun v σ H Q => Q (σ.set i (some v)) H
theorem pg_name {i : Nat} {x : Str} (hN : X.N.Nodup) (hi : X.N[i]? = some x) (hx : Loc X.env.scope x) (hf : X.fn x = true ∨ X.env.scope.names.lookup x = some .local := by first | exact .inl rfl | exact .inr rfl | assumption) : PG X (.Name x pos) (gName i) := by
 intro pins s σ H v u Q I r h
 exact wpAny_assign_Name (store_ok I hN hi hx r (fun s' I' => ⟨_, H, I', h⟩) hf)
noncomputable def gNil : TGs := fun vs σ H Q => vs = [] ∧ Q σ H
noncomputable def gCons (t : TG) (u : TGs) : TGs := fun vs σ H Q => ∃ v r, vs = v :: r ∧ t v σ H fun σ' H' => u r σ' H' Q
theorem pgs_nil : PGs X [] gNil := by
 intro pins s σ H vs us Q I r h
 obtain ⟨e, h⟩ := h
 subst e
 cases r
 exact assignInOrder_nil ⟨σ, H, I, h⟩
theorem pgs_cons {e : Expr} {es : List Expr} {t : TG} {u : TGs} (h1 : PG X e t) (h2 : PGs X es u)
   (hs : (assignEach (e :: es) X.env).map (·.2) = assign e X.env :: (assignEach es X.env).map (·.2) := by rfl) : PGs X (e :: es) (gCons t u) := by
 intro pins s σ H vs us Q I r h
 obtain ⟨v, vr, e1, h⟩ := h
 subst e1
 cases r with
 | cons r rr =>
   rw [hs]
   refine assignInOrder_cons (thn (h1 pins s σ H _ _ _ I r h) fun _ s1 ⟨σ1, H1, I1, q1⟩ => ?_)
   exact h2 pins s1 σ1 H1 _ _ Q I1 rr q1
noncomputable def gTup (K : PySem.W.Frag) (n : Nat) (t : TGs) : TG := fun v σ H Q => ∃ a xs, v = .ref a ∧ SqT K H a xs ∧ xs.length = n ∧ t xs σ H Q
theorem pg_tup {es : List Expr} {k : Nat} {t : TGs} {n : Nat} (hc : X.calm = true) (h : PGs X es t)
   (hn : (assignEach es X.env).length = n := by rfl) (hst : (assignEach es X.env).findIdx? (·.1) = none := by rfl) : PG X (.Tuple es k pos) (gTup X.K n t) := by
 intro pins s σ H v u Q I r hw
 obtain ⟨a, xs, e1, hq, hl, hw⟩ := hw
 subst e1
 cases r
 obtain ⟨its, rv, ht, hz⟩ := I.tuple hq
 refine assign_Tuple_tuple (I.ok.hd hc) ht (by simp [hn, ← hl, rv.length]) hst fun h' hx => ?_
 have I1 : Inv X pins σ H { s with heap := h' } := I.kept (t' := s.toks) fun b o e => hx b o (Nat.ne_of_lt (Heap.lt_size e)) e
 exact h pins _ σ H xs _ Q I1 (by simpa using rv) hw
noncomputable def gSub (to ti : TE) (t : TSet) : TG := fun v σ H Q => to σ H fun o H1 => ti σ H1 fun i H2 => t o i v H2 fun H3 => Q σ H3
theorem pg_sub {o i : Expr} {to ti : TE} {t : TSet} (ho : PE X o to) (hi : PE X i ti) (hs : PSet X t)
   (ha : ∀ v, assign (.Subscript o i pos) X.env v = (do
     let ov ← holding [v] (eval o X.env)
     let iv ← holding [v, ov] (eval i X.env)
     standAt pos
     holding [v, ov, iv] (setItem ov iv v)
     release [v, ov, iv] []) := by intro _; rfl) : PG X (.Subscript o i pos) (gSub to ti t) := by
 intro pins s σ H v u Q I r h
 rw [ha]
 refine wpAny_bind (wpAny_holding (thn (ho pins s σ H _ I h) fun ov s1 ⟨x, H1, I1, r1, q1⟩ => ?_))
 refine wpAny_bind (wpAny_holding (thn (hi pins s1 σ H1 _ I1 q1) fun iv s2 ⟨y, H2, I2, r2, q2⟩ => ?_))
 refine wpAny_bind (wpAny_standAt (wpAny_bind (wpAny_holding (thn (hs pins s2 σ H2 x y v ov iv u _ I2 r1 r2 r q2) fun _ s3 ⟨H3, I3, q3⟩ => ?_))))
 exact wpAny_release ⟨σ, H3, I3, q3⟩
noncomputable def tAsg (te : TE) (g : TG) : TS := fun D σ H => te σ H fun x H1 => g x σ H1 D.nx
theorem ps_asg {tg e : Expr} {te : TE} {g : TG} (he : PE X e te) (hg : PG X tg g) (hs : swapsWithSole [tg] e pos.line X.env = pure false := by rfl) (hw : swappedStores [tg] e X.env = pure none := by rfl)
   (h1 : (assignEach [tg] X.env).map (·.2) = [assign tg X.env] := by rfl) : PS X (.Assign [tg] e pos) (tAsg te g) := by
 intro pins s σ H D I h
 refine wpAny_Assign_stores (thn (he pins s σ H _ I h) fun v s1 ⟨x, H1, I1, r1, q1⟩ => ?_) hs hw
 rw [h1]
 exact thn (hg pins s1 σ H1 x v _ I1 r1 q1) fun _ s2 q => q
theorem ps_set {i : Nat} {x : Str} {e : Expr} {te : TE} {pos' : Pos} (hN : X.N.Nodup) (hi : X.N[i]? = some x) (hx : Loc X.env.scope x) (he : PE X e te) (hs : swapsWith e (some (.Name x pos')) pos.line X.env = pure false := by rfl) (hf : X.fn x = true ∨ X.env.scope.names.lookup x = some .local := by first | exact .inl rfl | exact .inr rfl | assumption) :
   PS X (.Assign [.Name x pos'] e pos) (tAsg te (gName i)) := by
 intro pins s σ H D I h
 refine wpAny_Assign_Name (thn (he pins s σ H _ I h) fun v s1 ⟨y, H1, I1, r1, q1⟩ => ?_) hs
 exact store_ok I1 hN hi hx r1 (fun s2 I2 => ⟨_, H1, I2, q1⟩) hf
noncomputable def ipI (f : Int → Int → Int) : TIp := fun x y H Q => ∃ i j, x = .int i ∧ y = .int j ∧ Q (.int (f i j)) H
theorem ip_add : PIp X .Add (ipI fun i j => i + j) := by
 intro pins s σ H x y v u Q I r1 r2 h
 obtain ⟨i, j, e1, e2, q⟩ := h
 subst e1; subst e2
 obtain ⟨t, rfl⟩ := r1
 obtain ⟨t', rfl⟩ := r2
 exact iadd_int ⟨.int _, H, I.tok _, ⟨_, rfl⟩, q⟩
end
section
variable {X : Cx} {pos : Pos}
end
structure It where
 go : Nat → Hp → Prop
 yld : Nat → Hp → V → Hp → Prop
 stop : Nat → Hp → Prop
noncomputable def FpOk (X : Cx) (pins : List (Addr × Obj)) (H : Hp) (b : Addr) : Prop :=
 H b = none ∧ b ≠ X.env.locals ∧ b ∉ X.fs ∧ (b ∈ X.ex ∨ X.s₀.heap.objs.size ≤ b) ∧ (∀ x c, X.env.cells.lookup x = some c → c ≠ b) ∧ ∀ p ∈ X.pn ++ pins, p.1 ≠ b
theorem Inv.fpOk {X : Cx} {pins : List (Addr × Obj)} {σ : St} {H H' : Hp} {s : Shared} {b : Addr} (I : Inv X pins σ H s) (hb : s.heap.objs.size ≤ b) (hn : H' b = none) : FpOk X pins H' b := by
 refine ⟨hn, Nat.ne_of_gt (Nat.lt_of_lt_of_le I.lt hb), I.nofs hb, .inr (Nat.le_trans I.sz hb), fun x c e z => ?_, fun p hp z => ?_⟩
 · obtain ⟨v, q⟩ := I.cell x c e
   exact absurd (Nat.lt_of_lt_of_le q.lt (by rw [z]; exact hb)) (Nat.lt_irrefl _)
 · exact absurd (Nat.lt_of_lt_of_le (Heap.lt_size (I.pin p hp).1) (by rw [z]; exact hb)) (Nat.lt_irrefl _)
structure Turn (P : Program) (w : World) (K : PySem.W.Frag) (tg : Expr) (J : It) (fp : List Addr) (it : Addr) (tn : Nat → Heap → Prop) : Prop where
 mem : it ∈ fp
 obj : ∀ i h, tn i h → ∀ b ∈ fp, ∃ o, h.get? b = some o ∧ ∀ v, o.data ≠ .cell v
 keep : ∀ i h h', tn i h → (∀ b ∈ fp, ∀ o, h.get? b = some o → h'.get? b = some o) → tn i h'
 item : ∀ (X : Cx), X.prog = P → X.w = w → X.K = K → X.calm = true → ∀ (i : Nat) (pins : List (Addr × Obj)) (s : Shared) (σ : St) (H : Hp) (E : Value → Shared → Prop), Inv X pins σ H s → (∀ b ∈ fp, FpOk X pins H b) → tn i s.heap → J.go i H →
   wpAny (model P w) X.A (pyNext (.ref it)) (fun r s1 => ∃ u, r = some u ∧
     wpAny (model P w) X.A (letOwnedTupleGo tg (.ref it) u) (fun _ s2 => ∃ x H', Inv X pins σ H' s2 ∧ RelV x u ∧ J.yld i H x H' ∧ tn (i + 1) s2.heap ∧ ∀ b ∈ fp, H' b = none) E s1) E s
 done : ∀ (X : Cx), X.prog = P → X.w = w → X.K = K → X.calm = true → ∀ (i : Nat) (pins : List (Addr × Obj)) (s : Shared) (σ : St) (H : Hp) (E : Value → Shared → Prop), Inv X pins σ H s → (∀ b ∈ fp, FpOk X pins H b) → tn i s.heap → J.stop i H →
   wpAny (model P w) X.A (pyNext (.ref it)) (fun r s1 => r = none ∧ Inv X pins σ H s1) E s
 self : ∀ (A : Around) (i : Nat) (s : Shared) (Q : Value → Shared → Prop) (E : Value → Shared → Prop), tn i s.heap → Q (.ref it) s → wpAny (model P w) A (pyIter (.ref it)) Q E s
noncomputable abbrev TI := St → Hp → (It → Hp → Prop) → Prop
noncomputable def PIE (X : Cx) (pins : List (Addr × Obj)) (σ : St) (tg : Expr) (R : It → Hp → Prop) (itv : Value) (s2 : Shared) : Prop :=
 ∃ (it : Addr) (fp : List Addr) (tn : Nat → Heap → Prop) (J : It) (H' : Hp), itv = .ref it ∧ Inv X pins σ H' s2 ∧ Turn X.prog X.w X.K tg J fp it tn ∧ tn 0 s2.heap ∧ (∀ b ∈ fp, FpOk X pins H' b) ∧ R J H'
noncomputable def PI (X : Cx) (tg iter : Expr) (wi : TI) : Prop :=
 ∀ (pins : List (Addr × Obj)) (s : Shared) (σ : St) (H : Hp) (R : It → Hp → Prop), Inv X pins σ H s → wi σ H R →
   wpAny (model X.prog X.w) X.A (eval iter X.env) (fun v s1 => wpAny (model X.prog X.w) X.A (pyIter v) (PIE X pins σ tg R) X.xe s1) X.xe s
theorem go_of {M : Model} {A : Around} {E : Value → Shared → Prop} {s : Shared} {tg : Expr} {it : Addr} {u : Value} {o : Obj} {n : String} {vs : Array Value} {Q : Unit → Shared → Prop} (ho : s.heap.get? it = some o) (hc : o.cls = .type n) (hd : o.data = .fields vs)
   (hn : ["enumerate", "zip", "dict_itemiterator", "dict_reverseitemiterator", "odict_iterator", "itertools.zip_longest", "itertools.pairwise"].contains n = false) (hQ : Q () s) : wpAny M A (letOwnedTupleGo tg (.ref it) u) Q E s := by
 unfold letOwnedTupleGo
 cases tg <;> first
   | exact wpAny_pure hQ
   | (cases u <;> first
       | exact wpAny_pure hQ
       | (refine wpAny_bind (wpAny_load ho ?_)
          rw [hc, hd]
          show wpAny M A (if (["enumerate", "zip", "dict_itemiterator", "dict_reverseitemiterator", "odict_iterator", "itertools.zip_longest", "itertools.pairwise"].contains n && vs[0]? == some (rawInt _)) = true then _ else _) Q E s
          rw [if_neg (by intro h; rw [hn, Bool.false_and] at h; cases h)]
          exact wpAny_pure hQ))
noncomputable def Itl (K : PySem.W.Frag) (a : Addr) : It :=
 ⟨fun i H => ∃ xs x, SqL K H a xs ∧ xs[i]? = some x, fun i H x H' => H' = H ∧ ∀ xs, SqL K H a xs → xs[i]? = some x, fun i H => ∃ xs, SqL K H a xs ∧ xs.length ≤ i⟩
noncomputable def Itt (K : PySem.W.Frag) (a : Addr) : It :=
 ⟨fun i H => ∃ xs x, SqT K H a xs ∧ xs[i]? = some x, fun i H x H' => H' = H ∧ ∀ xs, SqT K H a xs → xs[i]? = some x, fun i H => ∃ xs, SqT K H a xs ∧ xs.length ≤ i⟩
noncomputable def Itr (lo : Int) (n : Nat) : It := ⟨fun i _ => i < n, fun i H x H' => H' = H ∧ x = .int (lo + i), fun i _ => n ≤ i⟩
theorem turn_list {P : Program} {w : World} {K : PySem.W.Frag} {tg : Expr} (a it : Addr) : Turn P w K tg (Itl K a) [it] it (fun i h => h.IsListIter it a i) where
 mem := by simp
 obj := fun i h st b hb => by
   have e : b = it := by simpa using hb
   subst e
   obtain ⟨o, e, c, d⟩ := st
   exact ⟨o, e, fun v z => by rw [d] at z; cases z⟩
 keep := fun i h h' st k => st.at fun o e => k it (by simp) o e
 item := by
   intro X hP hw hK hc i pins s σ H E I hf st hg
   subst hP hw hK
   obtain ⟨xs, x, hq, hx⟩ := hg
   obtain ⟨its, rv, p, hz⟩ := I.list hq
   obtain ⟨u, hu, ru⟩ := rv.get hx
   obtain ⟨f0, f1, f2, f3, f4, f5⟩ := hf it (by simp)
   refine wpAny_pyNext_list_item st p.isList (x := u) (by simpa using hu) fun h' st' sb => ?_
   have I1 : Inv X pins σ H { s with heap := h' } := I.turned (t' := s.toks) (fun b o hb e => (sb.2 b hb).trans e) f0 f1 f3 f4 f5
   obtain ⟨o, e, c, d⟩ := id st'
   exact ⟨u, rfl, go_of (s := { s with heap := h' }) e c d (by decide) ⟨x, H, I1, ru, ⟨rfl, fun ys hy => by rw [I.list_inj hy hq]; exact hx⟩, st', fun b hb => (hf b hb).1⟩⟩
 done := by
   intro X hP hw hK hc i pins s σ H E I hf st hg
   subst hP hw hK
   obtain ⟨xs, hq, hx⟩ := hg
   obtain ⟨its, rv, p, hz⟩ := I.list hq
   obtain ⟨f0, f1, f2, f3, f4, f5⟩ := hf it (by simp)
   have hl := rv.length
   exact wpAny_pyNext_list_end (I.ok.hd hc) st p.isList (by simp; lia) fun h' eb => ⟨rfl, I.turned (t' := s.toks) (fun b o hb e => eb b o hb e) f0 f1 f3 f4 f5⟩
 self := fun _ _ _ _ _ st h => wpAny_pyIter_listiter st h
theorem turn_tuple {P : Program} {w : World} {K : PySem.W.Frag} {tg : Expr} (a it : Addr) : Turn P w K tg (Itt K a) [it] it (fun i h => h.IsTupleIter it a i) where
 mem := by simp
 obj := fun i h st b hb => by
   have e : b = it := by simpa using hb
   subst e
   obtain ⟨o, e, c, d⟩ := st
   exact ⟨o, e, fun v z => by rw [d] at z; cases z⟩
 keep := fun i h h' st k => st.at fun o e => k it (by simp) o e
 item := by
   intro X hP hw hK hc i pins s σ H E I hf st hg
   subst hP hw hK
   obtain ⟨xs, x, hq, hx⟩ := hg
   obtain ⟨its, rv, p, hz⟩ := I.tuple hq
   obtain ⟨u, hu, ru⟩ := rv.get hx
   obtain ⟨f0, f1, f2, f3, f4, f5⟩ := hf it (by simp)
   refine wpAny_pyNext_tuple_item st (show s.heap.IsTuple a its.toArray from p) (x := u) (by simpa using hu) fun h' st' sb => ?_
   have I1 : Inv X pins σ H { s with heap := h' } := I.turned (t' := s.toks) (fun b o hb e => (sb.2 b hb).trans e) f0 f1 f3 f4 f5
   obtain ⟨o, e, c, d⟩ := id st'
   exact ⟨u, rfl, go_of (s := { s with heap := h' }) e c d (by decide) ⟨x, H, I1, ru, ⟨rfl, fun ys hy => by rw [I.tuple_inj hy hq]; exact hx⟩, st', fun b hb => (hf b hb).1⟩⟩
 done := by
   intro X hP hw hK hc i pins s σ H E I hf st hg
   subst hP hw hK
   obtain ⟨xs, hq, hx⟩ := hg
   obtain ⟨its, rv, p, hz⟩ := I.tuple hq
   obtain ⟨f0, f1, f2, f3, f4, f5⟩ := hf it (by simp)
   have hl := rv.length
   exact wpAny_pyNext_tuple_end (I.ok.hd hc) st (show s.heap.IsTuple a its.toArray from p) (by simp; lia) fun h' eb => ⟨rfl, I.turned (t' := s.toks) (fun b o hb e => eb b o hb e) f0 f1 f3 f4 f5⟩
 self := fun _ _ _ _ _ st h => wpAny_pyIter_tupleiter st h
theorem turn_range {P : Program} {w : World} {K : PySem.W.Frag} {tg : Expr} (it : Addr) (lo : Int) (n : Nat) : Turn P w K tg (Itr lo n) [it] it (fun i h => IsRangeIter h it (lo + (i : Nat) * 1) ((n : Int) - (i : Nat)) 1) where
 mem := by simp
 obj := fun i h st b hb => by
   have e : b = it := by simpa using hb
   subst e
   exact ⟨_, st, fun v z => by
     have z' : Data.fields _ = Data.cell v := z
     cases z'⟩
 keep := fun i h h' st k => k it (by simp) _ st
 item := by
   intro X hP hw hK hc i pins s σ H E I hf st hg
   subst hP hw hK
   obtain ⟨f0, f1, f2, f3, f4, f5⟩ := hf it (by simp)
   have W := Walks.range (prog := X.prog) (w := X.w) (I.ok.hd hc) it lo 1 n
   refine W.item i s _ _ hg st fun v h' tk hv st' kk => ?_
   obtain ⟨t, rfl⟩ := hv
   have I1 : Inv X pins σ H { s with heap := h', toks := tk } := I.turned (fun b o hb e => kk b o (by simpa using hb) e) f0 f1 f3 f4 f5
   refine ⟨_, rfl, go_of (s := { s with heap := h', toks := tk }) (n := "range_iterator") st' rfl rfl (by decide) ⟨.int (lo + i), H, I1, ⟨t, ?_⟩, ⟨rfl, rfl⟩, st', fun b hb => (hf b hb).1⟩⟩
   rw [Int.mul_one]
 done := by
   intro X hP hw hK hc i pins s σ H E I hf st hg
   subst hP hw hK
   obtain ⟨f0, f1, f2, f3, f4, f5⟩ := hf it (by simp)
   exact wpAny_pyNext_range_end (I.ok.hd hc) st (by have : n ≤ i := hg; lia) fun h' eb => ⟨rfl, I.turned (t' := s.toks) (fun b o hb e => eb b o hb e) f0 f1 f3 f4 f5⟩
 self := fun _ _ _ _ _ st h => wpAny_pyIter_rangeiter st h
end L2
namespace L2
open PySem PySem.Spec PyProof.Rows
section
variable {X : Cx} {tg : Expr}
theorem range_it {pins : List (Addr × Obj)} {σ : St} {H : Hp} {s : Shared} {R : It → Hp → Prop} {E : Value → Shared → Prop} {lo hi : Int} {t u v : Tok} {tk : Nat} (I : Inv X pins σ H s) (h1 : -(2 ^ 62) ≤ lo) (h2 : lo < 2 ^ 62) (h3 : -(2 ^ 62) ≤ hi) (h4 : hi < 2 ^ 62)
   (q : R (Itr lo (hi - lo).toNat) H) : wpAny (model X.prog X.w) X.A (pyIter (.ref s.heap.objs.size)) (PIE X pins σ tg R) E { s with heap := s.heap.push { cls := .type "range", data := .fields #[.int lo t, .int hi u, .int 1 v] }, toks := tk } := by
 refine wpAny_pyIter_range (IsRange.new ..) (small_one h1 h2 h3 h4) ?_
 have I1 : Inv X pins σ H { s with heap := s.heap.push { cls := .type "range", data := .fields #[.int lo t, .int hi u, .int 1 v] }, toks := tk } := I.kept fun b o e => Heap.get?_push_of_some _ e
 refine ⟨(s.heap.push { cls := .type "range", data := .fields #[.int lo t, .int hi u, .int 1 v] }).objs.size, [(s.heap.push { cls := .type "range", data := .fields #[.int lo t, .int hi u, .int 1 v] }).objs.size], _, _, H, rfl,
   I1.kept (t' := tk) fun b o e => Heap.get?_push_of_some _ e, turn_range _ lo (hi - lo).toNat, ?_, fun b hb => ?_, q⟩
 · have e1 : lo + ((0 : Nat) : Int) * 1 = lo := by simp
   have e2 : (((hi - lo).toNat : Nat) : Int) - ((0 : Nat) : Int) = Builtin.Range.rangeSize lo hi 1 := by rw [rangeSize_one]; split <;> lia
   show IsRangeIter _ _ (lo + ((0 : Nat) : Int) * 1) ((((hi - lo).toNat : Nat) : Int) - ((0 : Nat) : Int)) 1
   rw [e1, e2]
   exact Heap.get?_push_size _ rfl
 · have e : b = (s.heap.push { cls := .type "range", data := .fields #[.int lo t, .int hi u, .int 1 v] }).objs.size := by simpa using hb
   subst e
   exact I1.fpOk (Nat.le_refl _) (I1.hok.fresh (Nat.le_refl _))
noncomputable def iRng1 (ta : TA) : TI := fun σ H R => ta σ H fun vs H1 => ∃ j : Int, vs = [.int j] ∧ -(2 ^ 62) ≤ j ∧ j < 2 ^ 62 ∧ R (Itr 0 j.toNat) H1
noncomputable def iRng2 (ta : TA) : TI := fun σ H R => ta σ H fun vs H1 => ∃ i j : Int, vs = [.int i, .int j] ∧ (-(2 ^ 62) ≤ i ∧ i < 2 ^ 62 ∧ -(2 ^ 62) ≤ j ∧ j < 2 ^ 62) ∧ R (Itr i (j - i).toNat) H1
theorem pi_range1 {a : Expr} {ta : TA} {p pos : Pos} (hg : Gl X "range") (hm : X.mg "range" = none) (ha : PA X [a] ta) (hs : starEach [a] X.env = [(false, eval a X.env)] := by rfl) : PI X tg (.Call (.Name "range" p) [a] [] pos) (iRng1 ta) := by
 intro pins s σ H R I h
 refine Call_ (ld_blt I hg hm boot_range (PyProof.Rows.callWith_type1 (thn (ha pos pins s σ H _ I h) fun us s1 ⟨vs, H1, I1, r1, q1⟩ => ?_) hs rfl))
 obtain ⟨j, e, q1, q2, q⟩ := q1
 subst e
 cases r1 with
 | cons r rr =>
   cases rr
   obtain ⟨t, rfl⟩ := r
   exact call_range_1 (range_it I1 (by lia) (by lia) q1 q2 (by simpa using q))
theorem pi_range2 {a b : Expr} {ta : TA} {p pos : Pos} (hg : Gl X "range") (hm : X.mg "range" = none) (ha : PA X [a, b] ta) (hs : starEach [a, b] X.env = [(false, eval a X.env), (false, eval b X.env)] := by rfl) (hs2 : starEach [b] X.env = [(false, eval b X.env)] := by rfl) :
   PI X tg (.Call (.Name "range" p) [a, b] [] pos) (iRng2 ta) := by
 intro pins s σ H R I h
 refine Call_ (ld_blt I hg hm boot_range (PyProof.Rows.callWith_type1 (thn (ha pos pins s σ H _ I h) fun us s1 ⟨vs, H1, I1, r1, q1⟩ => ?_) (by rw [hs, hs2]) (by rw [hs2]; rfl)))
 obtain ⟨i, j, e, ⟨q1, q2, q3, q4⟩, q⟩ := q1
 subst e
 cases r1 with
 | cons r rr =>
   cases rr with
   | cons r' rr =>
     cases rr
     obtain ⟨t, rfl⟩ := r
     obtain ⟨t', rfl⟩ := r'
     exact call_range_2 (range_it I1 q1 q2 q3 q4 q)
noncomputable def tFor (wi : TI) (g : TG) (tb : TS) : TS := fun D σ H => wi σ H fun J H1 => ∃ W : Nat → Nat → St → Hp → Prop, (∃ m, W 0 m σ H1) ∧ ∀ i m σ H, W i m σ H →
 (J.stop i H ∧ D.nx σ H) ∨ (J.go i H ∧ ∃ N : St → Hp → Prop, (∀ σ' H', N σ' H' → ∃ m', m' < m ∧ W (i + 1) m' σ' H') ∧ ∀ x H', J.yld i H x H' → g x σ H' fun σ2 H2 => tb { D with nx := N, ct := N, bk := D.nx } σ2 H2)
noncomputable def pinsAt (fp : List Addr) (h : Heap) : List (Addr × Obj) := fp.filterMap fun b => (h.get? b).map fun o => (b, o)
theorem mem_pinsAt {fp : List Addr} {h : Heap} {b : Addr} {o : Obj} (hb : b ∈ fp) (e : h.get? b = some o) : (b, o) ∈ pinsAt fp h := List.mem_filterMap.mpr ⟨b, hb, by rw [e]; rfl⟩
theorem of_pinsAt {fp : List Addr} {h : Heap} {p : Addr × Obj} (hp : p ∈ pinsAt fp h) : p.1 ∈ fp ∧ h.get? p.1 = some p.2 := by
 obtain ⟨b, hb, e⟩ := List.mem_filterMap.mp hp
 cases q : h.get? b with
 | none => rw [q] at e; cases e
 | some o =>
   rw [q] at e
   have e' : (b, o) = p := Option.some.inj e
   subst e'
   exact ⟨hb, q⟩
theorem Inv.pinned {pins : List (Addr × Obj)} {σ : St} {H : Hp} {s : Shared} {fp : List Addr} (I : Inv X pins σ H s) (hf : ∀ b ∈ fp, FpOk X pins H b) (ho : ∀ b ∈ fp, ∃ o, s.heap.get? b = some o ∧ ∀ v, o.data ≠ .cell v) : Inv X (pins ++ pinsAt fp s.heap) σ H s :=
 I.pins_of fun p hp => (List.mem_append.mp hp).elim (fun z => I.pin p (List.mem_append_right _ z)) fun z => by
   obtain ⟨hb, e⟩ := of_pinsAt z
   obtain ⟨f0, f1, f2, _⟩ := hf p.1 hb
   obtain ⟨o, e', d⟩ := ho p.1 hb
   rw [e] at e'; cases e'
   exact ⟨e, f0, f1, f2, d⟩
theorem Inv.unpinned {pins pl : List (Addr × Obj)} {σ : St} {H : Hp} {s : Shared} (I : Inv X (pins ++ pl) σ H s) : Inv X pins σ H s := I.pins_of fun p hp => I.pin p (List.mem_append_right _ (List.mem_append_left _ hp))
theorem ps_for {iter : Expr} {body : List Stmt} {wi : TI} {g : TG} {tb : TS} {pos : Pos} (hp : PassesOwn (model X.prog X.w) X.A X.env X.xe) (hc : X.calm = true) (hi : PI X tg iter wi) (hg : PG X tg g) (hb : PSs X body tb)
   (hs : ∀ x, foldedSetIterable iter X.env x = pure x := by intro _; rfl) : PS X (.For tg iter body [] pos) (tFor wi g tb) := by
 intro pins s σ H D I h
 refine wpAny_For (thn (hi pins s σ H _ I h) fun v s1 h1 => thn h1 fun itv s2 h2 => ?_) hs
 obtain ⟨it, fp, tn, J, H2, e, I2, T, st2, f2, W, ⟨m0, w0⟩, turn⟩ := h2
 subst e
 -- what stays true of the iterator's objects through the loop
 have stat : ∀ {H' : Hp}, (∀ b ∈ fp, H' b = none) → ∀ b ∈ fp, FpOk X pins H' b := fun hn b hb => ⟨hn b hb, (f2 b hb).2⟩
 refine codeAny_forLoop_any (fun n s' => ∃ i σ' H', Inv X pins σ' H' s' ∧ tn i s'.heap ∧ (∀ b ∈ fp, H' b = none) ∧ W i n σ' H') ?_ m0 ⟨0, σ, H2, I2, st2, fun b hb => (f2 b hb).1, w0⟩
 rintro n s3 ⟨i, σ3, H3, I3, st3, fr3, w3⟩
 rcases turn i n σ3 H3 w3 with ⟨stop, qn⟩ | ⟨go, N, hN, step⟩
 · refine wpAny_passesOwn hp (thn (T.done X rfl rfl rfl hc i pins s3 σ3 H3 X.xe I3 (stat fr3) st3 stop) fun r s4 ⟨hr, I4⟩ => ?_)
   subst hr
   exact wpAny_execs_nil ⟨σ3, H3, I4, qn⟩
 · refine wpAny_passesOwn hp (thn (T.item X rfl rfl rfl hc i pins s3 σ3 H3 X.xe I3 (stat fr3) st3 go) fun r s4 ⟨u, hr, h4⟩ => ?_)
   subst hr
   refine wpAny_passesOwn hp (thn h4 fun _ s5 ⟨x, H5, I5, r5, y5, st5, fr5⟩ => ?_)
   have I5' := I5.pinned (stat fr5) (T.obj _ _ st5)
   refine wpAny_passesOwn hp (thn (hg _ s5 σ3 H5 x u _ I5' r5 (step x H5 y5)) fun _ s6 ⟨σ6, H6, I6, q6⟩ => ?_)
   refine wpAny_passesOwn hp (thn (hb _ s6 σ6 H6 _ I6 q6) fun f s7 q7 => ?_)
   have again : ∀ {σ7 : St} {H7 : Hp}, Inv X (pins ++ pinsAt fp s5.heap) σ7 H7 s7 → N σ7 H7 → ∃ m, m < n ∧ ∃ i σ' H', Inv X pins σ' H' s7 ∧ tn i s7.heap ∧ (∀ b ∈ fp, H' b = none) ∧ W i m σ' H' := fun {σ7 H7} I7 n7 => by
     obtain ⟨m', hm, w7⟩ := hN σ7 H7 n7
     refine ⟨m', hm, i + 1, σ7, H7, I7.unpinned, T.keep _ _ _ st5 fun b hb o e => (I7.pin (b, o) (List.mem_append_right _ (List.mem_append_right _ (mem_pinsAt hb e)))).1, fun b hb => ?_, w7⟩
     obtain ⟨o, e, d⟩ := T.obj _ _ st5 b hb
     exact (I7.pin (b, o) (List.mem_append_right _ (List.mem_append_right _ (mem_pinsAt hb e)))).2.1
   cases f with
   | next => obtain ⟨σ7, H7, I7, n7⟩ := q7; exact again I7 n7
   | cont => obtain ⟨σ7, H7, I7, n7⟩ := q7; exact again I7 n7
   | brk => obtain ⟨σ7, H7, I7, q7⟩ := q7; exact ⟨σ7, H7, I7.unpinned, q7⟩
   | ret v => obtain ⟨x7, σ7, H7, I7, r7, q7⟩ := q7; exact ⟨x7, σ7, H7, I7.unpinned, r7, q7⟩
end
end L2
namespace L2
open PySem PySem.Spec PyProof.Rows
noncomputable abbrev R2 := V → V → Hp → VK → Prop
noncomputable def OpR (X : Cx) (f : Value → Value → Sem Value) (r : R2) : Prop :=
 ∀ (pins : List (Addr × Obj)) (s : Shared) (σ : St) (H : Hp) (x y : V) (v u : Value) (Q : VK), Inv X pins σ H s → RelV x v → RelV y u → r x y H Q →
   wpAny (model X.prog X.w) X.A (f v u) (EP X pins σ Q) X.xe s
noncomputable def UnR (X : Cx) (f : Value → Sem Value) (r : V → Hp → VK → Prop) : Prop :=
 ∀ (pins : List (Addr × Obj)) (s : Shared) (σ : St) (H : Hp) (x : V) (v : Value) (Q : VK), Inv X pins σ H s → RelV x v → r x H Q →
   wpAny (model X.prog X.w) X.A (f v) (EP X pins σ Q) X.xe s
noncomputable def CallR (X : Cx) (f : Value) (r : List V → Hp → VK → Prop) : Prop :=
 ∀ (pins : List (Addr × Obj)) (s : Shared) (σ : St) (H : Hp) (xs : List V) (us : List Value) (Q : VK), Inv X pins σ H s → Vals xs us → r xs H Q →
   wpAny (model X.prog X.w) X.A (call f us) (EP X pins σ Q) X.xe s
noncomputable def TruR (X : Cx) (r : V → Hp → (Bool → Hp → Prop) → Prop) : Prop :=
 ∀ (pins : List (Addr × Obj)) (s : Shared) (σ : St) (H : Hp) (x : V) (v : Value) (Q : Bool → Hp → Prop), Inv X pins σ H s → RelV x v → r x H Q →
   wpAny (model X.prog X.w) X.A (truthy v) (TP X pins σ Q) X.xe s
noncomputable def tOp (r : R2) (ta tb : TE) : TE := fun σ H Q => ta σ H fun x H1 => tb σ H1 fun y H2 => r x y H2 Q
noncomputable def tUn (r : V → Hp → VK → Prop) (ta : TE) : TE := fun σ H Q => ta σ H fun x H1 => r x H1 Q
noncomputable def rI (C : Int → Int → Prop) (g : Int → Int → V) : R2 := fun x y H Q => ∃ i j, x = .int i ∧ y = .int j ∧ C i j ∧ Q (g i j) H
noncomputable def rI0 (g : Int → Int → V) : R2 := fun x y H Q => ∃ i j, x = .int i ∧ y = .int j ∧ Q (g i j) H
noncomputable def rU (g : Int → V) : V → Hp → VK → Prop := fun x H Q => ∃ i, x = .int i ∧ Q (g i) H
section
variable {X : Cx} {a b c : Expr} {ta tb tc : TE} {pos : Pos}
theorem binT (ha : PE X a ta) (hb : PE X b tb) {pins : List (Addr × Obj)} {s : Shared} {σ : St} {H : Hp} {R : V → V → Hp → Prop} (I : Inv X pins σ H s)
   (h : ta σ H fun x H1 => tb σ H1 fun y H2 => R x y H2) {Q : Value → Shared → Prop} {f : Value → Value → Sem Value}
   (hf : ∀ v u s2 x y H2, Inv X pins σ H2 s2 → RelV x v → RelV y u → R x y H2 → wpAny (model X.prog X.w) X.A (f v u) Q X.xe s2) :
   wpAny (model X.prog X.w) X.A (eval a X.env) (fun v s₁ => wpAny (model X.prog X.w) X.A (eval b X.env) (fun u s₂ => wpAny (model X.prog X.w) X.A (f v u) Q X.xe s₂) X.xe s₁) X.xe s := by
 refine thn (ha pins s σ H _ I h) fun v s1 ⟨x, H1, I1, r1, q1⟩ => ?_
 refine thn (hb pins s1 σ H1 _ I1 q1) fun u s2 ⟨y, H2, I2, r2, q2⟩ => ?_
 exact hf v u s2 x y H2 I2 r1 r2 q2
theorem pe_op {op : Operator} {r : R2} (ho : OpR X (binaryOp op) r) (ha : PE X a ta) (hb : PE X b tb) : PE X (.BinOp a op b pos) (tOp r ta tb) := by
 intro pins s σ H Q I h
 exact wpAny_BinOp (binT ha hb I h fun v u s2 x y H2 I2 rx ry q => ho pins s2 σ H2 x y v u Q I2 rx ry q)
theorem pe_un {op : UnaryOp} {r : V → Hp → VK → Prop} (ho : UnR X (unaryOp op) r) (ha : PE X a ta) : PE X (.UnaryOp op a pos) (tUn r ta) := by
 intro pins s σ H Q I h
 exact UnaryOp_ (thn (ha pins s σ H _ I h) fun v s1 ⟨x, H1, I1, r1, q1⟩ => ho pins s1 σ H1 x v Q I1 r1 q1)
theorem opI {f : Value → Value → Sem Value} {C : Int → Int → Prop} {g : Int → Int → Int}
   (rule : ∀ (i j : Int) (t u : Tok) (s : Shared) (Q : Value → Shared → Prop) (E : Value → Shared → Prop), C i j → Q (.int (g i j) s.toks) { s with toks := s.toks + 1 } → wpAny (model X.prog X.w) X.A (f (.int i t) (.int j u)) Q E s) :
   OpR X f (rI C fun i j => .int (g i j)) := by
 intro pins s σ H x y v u Q I rx ry h
 obtain ⟨i, j, rfl, rfl, hc, q⟩ := h
 obtain ⟨t, rfl⟩ := rx
 obtain ⟨t', rfl⟩ := ry
 exact rule i j t t' s _ _ hc ⟨.int (g i j), H, I.tok _, ⟨_, rfl⟩, q⟩
theorem opI0 {f : Value → Value → Sem Value} {g : Int → Int → Int}
   (rule : ∀ (i j : Int) (t u : Tok) (s : Shared) (Q : Value → Shared → Prop) (E : Value → Shared → Prop), Q (.int (g i j) s.toks) { s with toks := s.toks + 1 } → wpAny (model X.prog X.w) X.A (f (.int i t) (.int j u)) Q E s) :
   OpR X f (rI0 fun i j => .int (g i j)) := by
 intro pins s σ H x y v u Q I rx ry h
 obtain ⟨i, j, rfl, rfl, q⟩ := h
 obtain ⟨t, rfl⟩ := rx
 obtain ⟨t', rfl⟩ := ry
 exact rule i j t t' s _ _ ⟨.int (g i j), H, I.tok _, ⟨_, rfl⟩, q⟩
theorem opB0 {f : Value → Value → Sem Value} {g : Int → Int → Bool}
   (rule : ∀ (i j : Int) (t u : Tok) (s : Shared) (Q : Value → Shared → Prop) (E : Value → Shared → Prop), Q (.bool (g i j)) s → wpAny (model X.prog X.w) X.A (f (.int i t) (.int j u)) Q E s) :
   OpR X f (rI0 fun i j => .bl (g i j)) := by
 intro pins s σ H x y v u Q I rx ry h
 obtain ⟨i, j, rfl, rfl, q⟩ := h
 obtain ⟨t, rfl⟩ := rx
 obtain ⟨t', rfl⟩ := ry
 exact rule i j t t' s _ _ ⟨.bl (g i j), H, I, rfl, q⟩
noncomputable def CPow (i j : Int) : Prop := 0 ≤ j ∧ j ≤ 1000000 ∧ i.natAbs < 2 ^ 64
noncomputable def CMul (i j : Int) : Prop := (-(2 ^ 64) < i ∧ i < 2 ^ 64) ∨ (-(2 ^ 64) < j ∧ j < 2 ^ 64)
theorem CMul.ok {i j : Int} (h : CMul i j) : IntMulOk i j := by
 rcases h with ⟨h1, h2⟩ | ⟨h1, h2⟩
 · exact .of_left (intBits_le_64 h1 h2)
 · exact .of_right (intBits_le_64 h1 h2)
theorem op_add : OpR X (binaryOp .Add) (rI0 fun i j => .int (i + j)) := opI0 fun _ _ _ _ _ _ _ q => add_int q
theorem op_sub : OpR X (binaryOp .Sub) (rI0 fun i j => .int (i - j)) := opI0 fun _ _ _ _ _ _ _ q => sub_int q
theorem op_mul : OpR X (binaryOp .Mult) (rI CMul fun i j => .int (i * j)) := opI fun _ _ _ _ _ _ _ hc q => mul_int q hc.ok
theorem op_mod : OpR X (binaryOp .Mod) (rI (fun _ j => 0 < j) fun i j => .int (i % j)) := opI fun i j _ _ _ _ _ hc q => by
 have h1 : (0 : Int) < j := hc
 exact mod_int' (by lia) (by rw [Int.fmod_eq_emod_of_nonneg i (by lia)]; exact q)
theorem op_pow : OpR X (binaryOp .Pow) (rI CPow fun i j => .int (i ^ j.toNat)) := opI fun _ _ _ _ _ _ _ hc q => pow_int_small hc.1 hc.2.1 hc.2.2 q
theorem unI {f : Value → Sem Value} {g : Int → Int}
   (rule : ∀ (i : Int) (t : Tok) (s : Shared) (Q : Value → Shared → Prop) (E : Value → Shared → Prop), Q (.int (g i) s.toks) { s with toks := s.toks + 1 } → wpAny (model X.prog X.w) X.A (f (.int i t)) Q E s) :
   UnR X f (rU fun i => .int (g i)) := by
 intro pins s σ H x v Q I rx h
 obtain ⟨i, rfl, q⟩ := h
 obtain ⟨t, rfl⟩ := rx
 exact rule i t s _ _ ⟨.int (g i), H, I.tok _, ⟨_, rfl⟩, q⟩
theorem un_neg : UnR X (unaryOp .USub) (rU fun i => .int (-i)) := unI fun _ _ _ _ _ q => neg_int q
end
section
variable {X : Cx} {a b c : Expr} {ta tb tc : TE} {pos : Pos}
theorem op_lt : OpR X (compareOp .Lt) (rI0 fun i j => .bl (decide (i < j))) := opB0 fun _ _ _ _ _ _ _ q => lt_int q
theorem op_le : OpR X (compareOp .LtE) (rI0 fun i j => .bl (decide (i ≤ j))) := opB0 fun _ _ _ _ _ _ _ q => le_int q
theorem op_gt : OpR X (compareOp .Gt) (rI0 fun i j => .bl (decide (j < i))) := opB0 fun _ _ _ _ _ _ _ q => gt_int q
theorem op_ge : OpR X (compareOp .GtE) (rI0 fun i j => .bl (decide (j ≤ i))) := opB0 fun _ _ _ _ _ _ _ q => ge_int q
theorem nomark (b : Expr) {op : CmpOp} (h : op ≠ .In := by decide) (h2 : op ≠ .NotIn := by decide) : behindInMarks op b = false := by
 have e1 : (op == CmpOp.In) = false := by cases op <;> first | rfl | exact absurd rfl h
 have e2 : (op == CmpOp.NotIn) = false := by cases op <;> first | rfl | exact absurd rfl h2
 cases b <;> simp [behindInMarks, e1, e2]
theorem pe_cmpR {op : CmpOp} {r : R2} (ho : OpR X (compareOp op) r) (ha : PE X a ta) (hb : PE X b tb) (hm : behindInMarks op b = false) : PE X (.Compare a [op] [b] pos) (tOp r ta tb) := by
 intro pins s σ H Q I h
 exact wpAny_Compare1 (binT ha hb I h fun v u s2 x y H2 I2 rx ry q => ho pins s2 σ H2 x y v u Q I2 rx ry q) hm
noncomputable def tTest (t : TE) : TT := fun σ H Q => t σ H fun x H' => ∃ k, x = .bl k ∧ Q k H'
theorem pt_cmpR {op : CmpOp} {r : R2} (ho : OpR X (compareOp op) r) (ha : PE X a ta) (hb : PE X b tb) (hm : behindInMarks op b = false) : PT X (.Compare a [op] [b] pos) (tTest (tOp r ta tb)) := by
 intro pins s σ H Q I h
 refine wpAny_isTrue_Compare1 (thn (ha pins s σ H _ I h) fun v s1 ⟨x, H1, I1, r1, q1⟩ => thn (hb pins s1 σ H1 _ I1 q1) fun u s2 ⟨y, H2, I2, r2, q2⟩ =>
   thn (ho pins s2 σ H2 x y v u _ I2 r1 r2 q2) fun c s3 ⟨z, H3, I3, r3, k, e, q3⟩ => ?_) hm
 subst e
 cases r3
 exact wpAny_truthy_bool ⟨H3, I3, q3⟩
noncomputable def tChain (r r' : R2) (ta tb tc : TE) : TE := fun σ H Q => ta σ H fun x H1 => tb σ H1 fun y H2 => r x y H2 fun z H3 => ∃ k, z = .bl k ∧
 (if k = true then tc σ H3 fun w' H4 => r' y w' H4 Q else Q (.bl false) H3)
theorem pe_chain {op op' : CmpOp} {r r' : R2} (ho : OpR X (compareOp op) r) (ho' : OpR X (compareOp op') r') (ha : PE X a ta) (hb : PE X b tb) (hc : PE X c tc)
   (hm : lastMarks [op, op'] [b, c] = false := by with_unfolding_all rfl) : PE X (.Compare a [op, op'] [b, c] pos) (tChain r r' ta tb tc) := by
 intro pins s σ H Q I h
 refine Compare_chain (thn (ha pins s σ H _ I h) fun v s1 ⟨x, H1, I1, r1, q1⟩ => chain_link (thn (hb pins s1 σ H1 _ I1 q1) fun u s2 ⟨y, H2, I2, r2, q2⟩ =>
   thn (ho pins s2 σ H2 x y v u _ I2 r1 r2 q2) fun d s3 ⟨z, H3, I3, r3, k, e, q3⟩ => ?_)) hm
 subst e
 cases r3
 refine wpAny_truthy_bool ?_
 cases k with
 | false => exact ite_ff ⟨.bl false, H3, I3, rfl, q3⟩
 | true => exact ite_tt (chain_last (thn (hc pins s3 σ H3 _ I3 q3) fun w' s4 ⟨z', H4, I4, r4, q4⟩ => ho' pins s4 σ H4 y z' u w' Q I4 r2 r4 q4))
theorem pt_chain {op op' : CmpOp} {r r' : R2} (ho : OpR X (compareOp op) r) (ho' : OpR X (compareOp op') r') (ha : PE X a ta) (hb : PE X b tb) (hc : PE X c tc)
   (hm : lastMarks [op, op'] [b, c] = false := by with_unfolding_all rfl) : PT X (.Compare a [op, op'] [b, c] pos) (tTest (tChain r r' ta tb tc)) := by
 intro pins s σ H Q I h
 refine isTrue_chain (thn (ha pins s σ H _ I h) fun v s1 ⟨x, H1, I1, r1, q1⟩ => test_link (thn (hb pins s1 σ H1 _ I1 q1) fun u s2 ⟨y, H2, I2, r2, q2⟩ =>
   thn (ho pins s2 σ H2 x y v u _ I2 r1 r2 q2) fun d s3 ⟨z, H3, I3, r3, k, e, q3⟩ => ?_)) hm
 subst e
 cases r3
 refine wpAny_truthy_bool ?_
 cases k with
 | false =>
   obtain ⟨k', e', q'⟩ := q3
   cases e'
   exact ite_ff ⟨H3, I3, q'⟩
 | true =>
   refine ite_tt (test_last (thn (hc pins s3 σ H3 _ I3 q3) fun w' s4 ⟨z', H4, I4, r4, q4⟩ => thn (ho' pins s4 σ H4 y z' u w' _ I4 r2 r4 q4) fun d' s5 ⟨z2, H5, I5, r5, k2, e2, q5⟩ => ?_))
   subst e2
   cases r5
   exact wpAny_truthy_bool ⟨H5, I5, q5⟩
noncomputable def TruV (K : PySem.W.Frag) (x : V) (H : Hp) (k : Bool) : Prop :=
 match x with
 | .non => k = false
 | .bl b => k = b
 | .int i => k = (i != 0)
 | .str y => y.length ≤ sizeLine ∧ k = ((y.length : Int) != 0)
 | .byt y => y.size ≤ sizeLine ∧ k = ((y.size : Int) != 0)
 | .ref p => (∃ xs, SqL K H p xs ∧ k = !xs.isEmpty) ∨ (∃ xs, SqT K H p xs ∧ k = !xs.isEmpty) ∨ ∃ kvs, H p = some (.dK kvs) ∧ k = !kvs.isEmpty
 | _ => False
theorem isEmpty_kv {κ : Type} {kvs : List (κ × V)} {vs : List (κ × Value)} (r : KV kvs vs) : (!vs.isEmpty) = !kvs.isEmpty := by
 cases r <;> rfl
theorem isEmpty_of {xs : List V} {its : List Value} (r : Vals xs its) : (!its.toArray.isEmpty) = !xs.isEmpty := by
 cases r <;> simp
theorem line63 : (sizeLine : Nat) < 2 ^ 63 := by rw [sizeLine_eq]; decide
theorem tru_ok : TruR X (fun x H Q => ∃ k, TruV X.K x H k ∧ Q k H) := by
 intro pins s σ H x v Q I rx h
 obtain ⟨k, e, q⟩ := h
 have hl := line63
 have hs : sizeLine = 16777216 := sizeLine_eq
 cases x with
 | non =>
   cases rx
   have e' : k = false := e
   subst e'
   exact truthy_none ⟨H, I, q⟩
 | bl b =>
   cases rx
   have e' : k = b := e
   subst e'
   exact wpAny_truthy_bool ⟨H, I, q⟩
 | int i =>
   obtain ⟨t, rfl⟩ := rx
   have e' : k = (i != 0) := e
   subst e'
   exact PySem.P.truthy_int ⟨H, I, q⟩
 | str y =>
   obtain ⟨t, rfl⟩ := rx
   obtain ⟨hy, e'⟩ : y.length ≤ sizeLine ∧ k = ((y.length : Int) != 0) := e
   subst e'
   exact PySem.P.truthy_str (by lia) ⟨H, I.tok _, q⟩
 | byt y =>
   obtain ⟨t, rfl⟩ := rx
   obtain ⟨hy, e'⟩ : y.size ≤ sizeLine ∧ k = ((y.size : Int) != 0) := e
   subst e'
   exact PySem.W.truthy_bytes (by lia) ⟨H, I.tok _, q⟩
 | ref p =>
   cases rx
   have e' : (∃ xs, SqL X.K H p xs ∧ k = !xs.isEmpty) ∨ (∃ xs, SqT X.K H p xs ∧ k = !xs.isEmpty) ∨ ∃ kvs, H p = some (.dK kvs) ∧ k = !kvs.isEmpty := e
   rcases e' with ⟨xs, hx, e'⟩ | ⟨xs, hx, e'⟩ | ⟨kvs, hx, e'⟩
   · subst e'
     obtain ⟨its, r, pl, hz⟩ := I.list hx
     have hlen := r.length
     exact wpAny_truthy_list pl.isList (by simp only [List.size_toArray]; lia) ⟨H, I.tok _, by rw [isEmpty_of r]; exact q⟩
   · subst e'
     obtain ⟨its, r, pl, hz⟩ := I.tuple hx
     have hlen := r.length
     exact truthy_tuple pl (by simp only [List.size_toArray]; lia) ⟨H, I.tok _, by rw [isEmpty_of r]; exact q⟩
   · subst e'
     obtain ⟨hz, hS, vs, r, m⟩ : kvs.length ≤ sizeLine ∧ (p == sysModules) = false ∧ ∃ vs, KV kvs vs ∧ s.heap.DictOf (mixKind X.prog X.w) p vs := I.hok p _ hx
     have hlen : kvs.length = vs.length := Paired.length r
     exact wpAny_truthy_dict hS m (by lia) ⟨H, I.tok _, by rw [isEmpty_kv r]; exact q⟩
 | _ => exact (show False from e).elim
theorem pt_truth (ha : PE X a ta) (he : ∀ whole, isTrue a X.env whole = (do let v ← whole; standAt a.pos; holding [v] (truthy v))) :
   PT X a (fun σ H Q => ta σ H fun x H' => ∃ k, TruV X.K x H' k ∧ Q k H') := by
 intro pins s σ H Q I h
 exact isTrue_plain (thn (ha pins s σ H _ I h) fun v s1 ⟨x, H1, I1, r1, q1⟩ => tru_ok pins s1 σ H1 x v Q I1 r1 q1) (he _)
theorem op_add_str : OpR X (binaryOp .Add) (fun x y H Q => ∃ i j, x = .str i ∧ y = .str j ∧ i.length + j.length ≤ sizeLine ∧ Q (.str (i ++ j)) H) := by
 intro pins s σ H x y v u Q I rx ry h
 obtain ⟨i, j, rfl, rfl, hz, q⟩ := h
 obtain ⟨t, rfl⟩ := rx
 obtain ⟨t', rfl⟩ := ry
 exact add_str (fun t' tk => ⟨.str (i ++ j), H, I.tok _, ⟨_, rfl⟩, q⟩) hz
theorem vals1 {x : V} {us : List Value} (r : Vals [x] us) : ∃ u, us = [u] ∧ RelV x u := by
 cases r with
 | cons r1 r2 => cases r2; exact ⟨_, rfl, r1⟩
theorem vals2 {x y : V} {us : List Value} (r : Vals [x, y] us) : ∃ u w', us = [u, w'] ∧ RelV x u ∧ RelV y w' := by
 cases r with
 | cons r1 r2 =>
   cases r2 with
   | cons r3 r4 => cases r4; exact ⟨_, _, rfl, r1, r3⟩
theorem call_abs : CallR X (.builtin "abs") (fun xs H Q => ∃ i, xs = [.int i] ∧ Q (.int (if i < 0 then -i else i)) H) := by
 intro pins s σ H xs us Q I r h
 obtain ⟨i, rfl, q⟩ := h
 obtain ⟨u, rfl, t, rfl⟩ := vals1 r
 exact call_abs_int fun u tk => ⟨.int (if i < 0 then -i else i), H, I.tok _, ⟨_, rfl⟩, q⟩
theorem call_max2 (hc : X.calm = true) : CallR X (.builtin "max") (fun xs H Q => ∃ i j, xs = [.int i, .int j] ∧ Q (.int (if j > i then j else i)) H) := by
 intro pins s σ H xs us Q I r h
 obtain ⟨i, j, rfl, q⟩ := h
 obtain ⟨u, w', rfl, ⟨t, rfl⟩, ⟨t', rfl⟩⟩ := vals2 r
 refine max_two_ints (I.ok.hd hc) fun h' tk k => ⟨_, H, I.kept k, ?_, q⟩
 by_cases hj : j > i
 · rw [if_pos hj, if_pos hj]; exact ⟨_, rfl⟩
 · rw [if_neg hj, if_neg hj]; exact ⟨_, rfl⟩
theorem call_min2 (hc : X.calm = true) : CallR X (.builtin "min") (fun xs H Q => ∃ i j, xs = [.int i, .int j] ∧ Q (.int (if j < i then j else i)) H) := by
 intro pins s σ H xs us Q I r h
 obtain ⟨i, j, rfl, q⟩ := h
 obtain ⟨u, w', rfl, ⟨t, rfl⟩, ⟨t', rfl⟩⟩ := vals2 r
 refine min_two_ints (I.ok.hd hc) fun h' tk k => ⟨_, H, I.kept k, ?_, q⟩
 by_cases hj : j < i
 · rw [if_pos hj, if_pos hj]; exact ⟨_, rfl⟩
 · rw [if_neg hj, if_neg hj]; exact ⟨_, rfl⟩
theorem call_int1 : CallR X (.type "int") (fun xs H Q => (∃ i, xs = [.int i] ∧ Q (.int i) H) ∨ ∃ k, xs = [.bl k] ∧ Q (.int (if k then 1 else 0)) H) := by
 intro pins s σ H xs us Q I r h
 rcases h with ⟨i, rfl, q⟩ | ⟨k, rfl, q⟩
 · obtain ⟨u, rfl, t, rfl⟩ := vals1 r
   exact call_int_int ⟨.int i, H, I, ⟨_, rfl⟩, q⟩
 · obtain ⟨u, rfl, r1⟩ := vals1 r
   cases r1
   exact call_int_bool ⟨.int (if k then 1 else 0), H, I.tok _, ⟨_, rfl⟩, q⟩
end
end L2
namespace L2
open PySem PySem.Spec PyProof.Rows
section
variable {prog : Program} {w : World} {A : Around} {E : Value → Shared → Prop} {s : Shared} {K : PySem.W.Frag} {x dx C f : Addr} {mA : Str → Option Value} {name : Str} {v : Value}
end
theorem RelO.some_of {v : V} {o : Option Value} (r : RelO (some v) o) : ∃ u, o = some u ∧ RelV v u := by
 cases o with
 | none => exact (show False from r).elim
 | some u => exact ⟨u, rfl, r⟩
section
variable {P : Program} {w : World} {H H' : Hp} {h h' : Heap} {a C dx : Addr} {fs fs' : List (Str × V)}
end
section
variable {X : Cx} {pins : List (Addr × Obj)} {σ : St} {H : Hp} {s : Shared} {a C dx : Addr} {fs : List (Str × V)} {f : Str} {v : V} {A : Around} {E : Value → Shared → Prop}
end
noncomputable def InOp (X : Cx) (op : Operator) (rd : V → V → Hp → VK → Prop) : Prop :=
 ∀ (pins : List (Addr × Obj)) (s : Shared) (σ : St) (H : Hp) (x y : V) (u v : Value) (Q : VK), Inv X pins σ H s → RelV x u → RelV y v → rd x y H Q → wpAny (model X.prog X.w) X.A (inplaceOp op u v) (EP X pins σ Q) X.xe s
section
variable {X : Cx} {o e value : Expr} {f : Str} {pos pos' tpos : Pos} {ta tv : TE}
end
section
variable {X : Cx} {pins : List (Addr × Obj)} {σ : St} {H : Hp} {s : Shared} {A : Around} {E : Value → Shared → Prop} {Q : Value → Shared → Prop} {c : Value} {b : Bool}
end
end L2
namespace L2
open PySem PySem.Spec PyProof.Rows
structure Room (k : Nat) (A : Around) : Prop where
 hd : A.handled = none
 dp : A.depth + 3 * k + 5 < recursionLimit
 un : A.units + 16 * k + 200 < cLine
theorem Room.mono {j k : Nat} {A : Around} (r : Room k A) (h : j ≤ k) : Room j A := ⟨r.hd, by have := r.dp; lia, by have := r.un; lia⟩
theorem Room.deeper {k : Nat} {A : Around} (r : Room (k + 1) A) (env : Env) : Room k (A.deeper env) :=
 ⟨r.hd, by have := r.dp; show A.depth + 1 + 3 * k + 5 < _; lia, by have := r.un; show A.units + 3 + 16 * k + 200 < _; lia⟩
theorem Room.depth {k : Nat} {A : Around} (r : Room k A) : A.depth < recursionLimit := by have := r.dp; lia
theorem Room.units {k : Nat} {A : Around} (r : Room k A) : A.units + 64 < cLine := by have := r.un; lia
noncomputable def tNil : TA := fun _ H Q => Q [] H
noncomputable def tCons (ta : TE) (tr : TA) : TA := fun σ H Q => ta σ H fun x H1 => tr σ H1 fun xs H2 => Q (x :: xs) H2
section
variable {X : Cx} {e : Expr} {es : List Expr} {te : TE} {t : TA} {pos : Pos}
theorem pa_nil : PA X [] tNil := fun _ _ _ _ H Q I h => Calls.spliced_nil ⟨[], H, I, .nil, h⟩
theorem pa_cons (ha : PE X e te) (hr : PA X es t) (hs : starEach (e :: es) X.env = (false, eval e X.env) :: starEach es X.env := by rfl) : PA X (e :: es) (tCons te t) := by
 intro pos pins s σ H Q I h
 rw [hs]
 show wpAny _ _ (spliced ((false, eval e X.env) :: backTo pos (starEach es X.env))) _ _ s
 refine Calls.spliced_cons (thn (ha pins s σ H _ I h) fun u s1 ⟨x, H1, I1, r1, q1⟩ => ?_)
 exact thn (hr pos pins s1 σ H1 _ I1 q1) fun us s2 ⟨xs, H2, I2, r2, q2⟩ => ⟨x :: xs, H2, I2, .cons r1 r2, q2⟩
noncomputable def tTup (t : TA) : TE := fun σ H Q => t σ H fun xs H1 => xs.length ≤ sizeLine ∧ ∀ p, H1 p = none → Q (.ref p) (upd H1 p (.tup xs))
noncomputable def tLst (t : TA) : TE := fun σ H Q => t σ H fun xs H1 => xs.length ≤ sizeLine ∧ ∀ p, H1 p = none → Q (.ref p) (upd H1 p (.lst xs))
theorem pe_tup {x1} (h : PA X es t) : PE X (.Tuple es x1 pos) (tTup t) := by
 intro pins s σ H Q I hq
 refine wpAny_Tuple_spliced (thn (h pos pins s σ H _ I hq) fun us s1 ⟨xs, H1, I1, r, z, q⟩ => ⟨by rw [← r.length]; exact z, ?_⟩)
 have hf : H1 s1.heap.objs.size = none := I1.hok.fresh (Nat.le_refl _)
 refine ⟨.ref s1.heap.objs.size, upd H1 s1.heap.objs.size (.tup xs), I1.laid (t' := s1.toks) (fun b u e => Heap.get?_push_of_some _ e) (Nat.le_refl _) ?_, rfl, q _ hf⟩
 exact ⟨z, us, r, ⟨_, Heap.get?_push_size _ rfl, rfl, rfl, _, rfl⟩⟩
theorem pe_lst (h : PA X es t) : PE X (.List es pos) (tLst t) := by
 intro pins s σ H Q I hq
 refine wpAny_List_spliced (thn (h pos pins s σ H _ I hq) fun us s1 ⟨xs, H1, I1, r, z, q⟩ => ⟨by rw [← r.length]; exact z, ?_⟩)
 have hf : H1 s1.heap.objs.size = none := I1.hok.fresh (Nat.le_refl _)
 refine ⟨.ref s1.heap.objs.size, upd H1 s1.heap.objs.size (.lst xs), I1.laid (t' := s1.toks) (fun b u e => Heap.get?_push_of_some _ e) (Nat.le_refl _) ?_, rfl, q _ hf⟩
 exact ⟨z, us, 0, r, Heap.get?_push_size _ rfl⟩
end
noncomputable abbrev Sp := List V → Hp → VK → XK → Prop
noncomputable abbrev CXT := List Env → Hp → Shared → XK → Value → Shared → Prop
structure Env0 (P : Program) (w : World) (K : PySem.W.Frag) (mg : Str → Option Value) (base : Heap) (A : Around) (outer : List Env) (s : Shared) (H : Hp) : Prop where
 frames : A.frames = some outer
 mod : Mod K mg base
 bs : ∀ b o, base.get? b = some o → s.heap.get? b = some o ∧ H b = none
 bsz : base.objs.size ≤ s.heap.objs.size
 funs : s.heap.FunFrames base outer
 frf : ∀ b ∈ frs outer, H b = none
 hok : HOk P w H s.heap
 bare : AllBare s.gens
noncomputable def CE (outer : List Env) (P : Program) (w : World) (H : Hp) (s : Shared) (Q : VK) (u : Value) (s' : Shared) : Prop :=
 ∃ v H', s'.os = s.os ∧ AllBare s'.gens ∧ Un (frs outer) [] H H' s.heap s'.heap ∧ HOk P w H' s'.heap ∧ RelV v u ∧ Q v H'
noncomputable def CR (CX : CXT) (outer : List Env) (P : Program) (w : World) (H : Hp) (s : Shared) (Q : VK) (E : XK) (r : Result) (s' : Shared) : Prop :=
 match r with
 | .ok (.ret u) => CE outer P w H s Q u s'
 | .ok _ => False
 | .error e => CX outer H s E e s'
structure FnOk (P : Program) (w : World) (K : PySem.W.Frag) (mg : Str → Option Value) (base : Heap) (CX : CXT) (k : Nat) (f : Addr) (fd : FuncData) (ps : List Str) (sp : Sp) : Prop where
 len : ∀ vs H Q E, sp vs H Q E → vs.length = ps.length
 run : ∀ (A : Around) (outer : List Env) (s : Shared) (H : Hp) (args : Args) (us : List Value) (vs : List V) (Q : VK) (E : XK), Room k A → Env0 P w K mg base A outer s H → BindsTo s fd args (ps.zip us) → Vals vs us → sp vs H Q E →
   codeAny (model P w) A (.call (.ref f) args) (CR CX outer P w H s Q E) s
theorem FnOk.mono {P : Program} {w : World} {K : PySem.W.Frag} {mg : Str → Option Value} {base : Heap} {CX : CXT} {j k : Nat} {f : Addr} {fd : FuncData} {ps : List Str} {sp : Sp} (F : FnOk P w K mg base CX j f fd ps sp) (h : j ≤ k) :
   FnOk P w K mg base CX k f fd ps sp := ⟨F.len, fun A outer s H args us vs Q E hr => F.run A outer s H args us vs Q E (hr.mono h)⟩
section
variable {X : Cx} {pins : List (Addr × Obj)} {σ : St} {H : Hp} {s s' : Shared}
theorem Inv.env0 (I : Inv X pins σ H s) : Env0 X.prog X.w X.K X.mg X.base X.A X.stack s H :=
 ⟨I.ok.frames, I.ok.mod, I.bs, Nat.le_trans I.ok.bsz I.sz, I.stack, I.stkFree, I.hok, I.bare⟩
theorem Inv.after {Q : VK} {u : Value} (I : Inv X pins σ H s) (h : CE X.stack X.prog X.w H s Q u s') : EP X pins σ Q u s' := by
 obtain ⟨v, H', os, bare, un, hok, r, q⟩ := h
 obtain ⟨hh, g, d, t, os'⟩ := s'
 obtain rfl : os' = s.os := os
 exact ⟨v, H', I.call (h' := hh) (g' := g) (d' := d) (t' := t) (ch := []) un hok bare (fun b z => absurd z (by simp)), r, q⟩
end
noncomputable def tCall (sp : Sp) (dvs : List V) (E : XK) (t : TA) : TE := fun σ H Q => t σ H fun vs H1 => sp (vs ++ dvs) H1 Q E
noncomputable def Binds (K : PySem.W.Frag) (fd : FuncData) (ps : List Str) (ds : List Value) : Prop :=
 ∀ (s : Shared) (us : List Value), K.In s.heap → (us ++ ds).length = ps.length → BindsTo s fd ⟨us, []⟩ (ps.zip (us ++ ds))
theorem Binds.all {K : PySem.W.Frag} {fd : FuncData} {ps : List Str} (h : ∀ us : List Value, us.length = ps.length → bindArgs fd ⟨us, []⟩ = pure (ps.zip us)) : Binds K fd ps [] := fun s us _ hl => by
 rw [List.append_nil] at hl ⊢
 exact .of_eq (h us hl)
noncomputable def Passes (CX : CXT) (X : Cx) (E : XK) : Prop := ∀ (pins : List (Addr × Obj)) (σ : St) (H : Hp) (s : Shared) (e : Value) (s' : Shared), Inv X pins σ H s → CX X.stack H s E e s' → X.xe e s'
section
variable {X : Cx} {CX : CXT} {k : Nat} {f C : Addr} {fd : FuncData} {ps : List Str} {sp : Sp} {dvs : List V} {ds : List Value} {E : XK} {x m : Str} {p pos apos : Pos} {e o : Expr} {es : List Expr} {ta : TE} {t : TA}
theorem run_fn {pins : List (Addr × Obj)} {σ : St} {H : Hp} {s : Shared} {Q : VK} {us : List Value} {vs : List V} (F : FnOk X.prog X.w X.K X.mg X.base CX k f fd ps sp) (hr : Room k X.A) (hb : Binds X.K fd ps ds) (hd : Vals dvs ds) (hx : Passes CX X E)
   (I : Inv X pins σ H s) (r : Vals vs us) (h : sp (vs ++ dvs) H Q E) : wpAny (model X.prog X.w) X.A (call (.ref f) us) (EP X pins σ Q) X.xe s := by
 have r2 : Vals (vs ++ dvs) (us ++ ds) := r.append hd
 have hl : (us ++ ds).length = ps.length := by rw [← r2.length]; exact F.len _ _ _ _ h
 refine wpAny_call (codeAny_mono (F.run X.A X.stack s H ⟨us, []⟩ (us ++ ds) (vs ++ dvs) Q E hr I.env0 (hb s us I.kIn hl) r2 h) fun r s' hq => ?_)
 cases r with
 | error e => exact hx pins σ H s e s' I hq
 | ok fl =>
   cases fl with
   | ret u => exact I.after hq
   | next => exact False.elim hq
   | brk => exact False.elim hq
   | cont => exact False.elim hq
theorem pe_call (F : FnOk X.prog X.w X.K X.mg X.base CX k f fd ps sp) (hr : Room k X.A) (hg : Gl X x) (hm : X.mg x = some (.ref f)) (hk : PySem.W.keepIn X.K (.ref f) = true) (hb : Binds X.K fd ps ds) (hd : Vals dvs ds) (hx : Passes CX X E)
   (ha : PA X (e :: es) t) (hdb : (x == ("__debug__" : Str)) = false := by decide) (he : starEach (e :: es) X.env = (false, eval e X.env) :: starEach es X.env := by rfl) (hpl : (backTo pos (starEach es X.env)).any (·.1) = false := by rfl) :
   PE X (.Call (.Name x p) (e :: es) [] pos) (tCall sp dvs E t) := by
 intro pins s σ H Q I h
 refine wpAny_Call_Name_kw (ld_glob I hg hm ?_ hdb)
 refine PySem.W.callWith_K (h₀ := X.base) I.ok.mod.kin hk (thn (ha pos pins s σ H _ I h) fun us s1 ⟨vs, H1, I1, r, q⟩ => ⟨I1.kIn, ?_⟩) he hpl
 exact run_fn F hr hb hd hx I1 r q
end
section
variable {X : Cx} {CX : CXT} {k : Nat} {f C : Addr} {fd : FuncData} {ps ks : List Str} {sp : Sp} {E : XK} {x m : Str} {p pos apos kpos : Pos} {e o : Expr} {es : List Expr} {kws : List Keyword} {te ta : TE} {t tk : TA} {nm : Option Str}
variable {g : List Value → List Value → List Value} {gV : List V → List V → List V}
end
structure FnScope (N P : List Str) (sc : Scope) : Prop where
 kind : sc.kind = .function
 co : sc.isCoroutine = false
 gen : sc.isGenerator = false
 nd : N.Nodup
 pre : N.take P.length = P
 par : ∀ x ∈ P, sc.names.lookup x = some .local ∨ sc.names.lookup x = some .cell
 nofree : ∀ y ∈ sc.names, y.2 ≠ .free
theorem bindL_out {kindOf : Str → Option NameKind} {x : Str} : ∀ {binds : List (Str × Value)} {m : Str → Option Value}, (∀ v, (x, v) ∉ binds) → bindL kindOf binds m x = m x
 | [], _, _ => rfl
 | (n, v) :: r, m, h => by
   unfold bindL
   rw [bindL_out fun w hw => h w (List.mem_cons_of_mem _ hw)]
   split
   · have : x ≠ n := by rintro rfl; exact h v List.mem_cons_self
     simp [this]
   · rfl
theorem bindC_out {kindOf : Str → Option NameKind} {x : Str} : ∀ {binds : List (Str × Value)} {m : Str → Option Value}, (∀ v, (x, v) ∉ binds) → bindC kindOf binds m x = m x
 | [], _, _ => rfl
 | (n, v) :: r, m, h => by
   unfold bindC
   rw [bindC_out fun w hw => h w (List.mem_cons_of_mem _ hw)]
   split
   · rfl
   · have : x ≠ n := by rintro rfl; exact h v List.mem_cons_self
     simp [this]
theorem bindL_get {kindOf : Str → Option NameKind} {x : Str} {v : Value} : ∀ {P : List Str} {vs : List Value} {i : Nat} {m : Str → Option Value}, P.Nodup → P[i]? = some x → vs[i]? = some v → kindOf x = some .local →
   bindL kindOf (P.zip vs) m x = some v
 | [], _, _, _, _, h, _, _ => by simp at h
 | _ :: _, [], _, _, _, _, h, _ => by simp at h
 | p :: P, w :: vs, 0, m, nd, h1, h2, hk => by
   simp at h1 h2; subst h1; subst h2
   show bindL kindOf ((p, w) :: P.zip vs) m p = _
   unfold bindL
   rw [bindL_out fun v hv => (List.nodup_cons.mp nd).1 (List.of_mem_zip hv).1, if_pos hk]
   simp
 | p :: P, w :: vs, i + 1, m, nd, h1, h2, hk => by
   show bindL kindOf ((p, w) :: P.zip vs) m x = _
   unfold bindL
   exact bindL_get (i := i) (List.nodup_cons.mp nd).2 (by simpa using h1) (by simpa using h2) hk
theorem bindC_get {kindOf : Str → Option NameKind} {x : Str} {v : Value} : ∀ {P : List Str} {vs : List Value} {i : Nat} {m : Str → Option Value}, P.Nodup → P[i]? = some x → vs[i]? = some v → kindOf x ≠ some .local →
   bindC kindOf (P.zip vs) m x = some v
 | [], _, _, _, _, h, _, _ => by simp at h
 | _ :: _, [], _, _, _, _, h, _ => by simp at h
 | p :: P, w :: vs, 0, m, nd, h1, h2, hk => by
   simp at h1 h2; subst h1; subst h2
   show bindC kindOf ((p, w) :: P.zip vs) m p = _
   unfold bindC
   rw [bindC_out fun v hv => (List.nodup_cons.mp nd).1 (List.of_mem_zip hv).1, if_neg hk]
   simp
 | p :: P, w :: vs, i + 1, m, nd, h1, h2, hk => by
   show bindC kindOf ((p, w) :: P.zip vs) m x = _
   unfold bindC
   exact bindC_get (i := i) (List.nodup_cons.mp nd).2 (by simpa using h1) (by simpa using h2) hk
noncomputable def start (N : List Str) (vs : List V) : St := vs.map some ++ List.replicate (N.length - vs.length) none
noncomputable def cxOf (CX : CXT) (P : Program) (w : World) (K : PySem.W.Frag) (mg : Str → Option Value) (base : Heap) (N : List Str) (qual : Str) (scope : Scope) (f : Addr) (cd : Value) (A : Around) (outer : List Env) (s : Shared) (H : Hp) (E : XK) : Cx where
 prog := P
 w := w
 K := K
 mg := mg
 base := base
 A := A.deeper (envOfC qual scope s.heap.objs.size f cd)
 N := N
 s₀ := s
 H₀ := H
 env := envOfC qual scope s.heap.objs.size f cd
 outer := outer
 stack := envOfC qual scope s.heap.objs.size f cd :: outer
 ex := []
 calm := true
 fn := fun _ => true
 pn := []
 xe := fun e s' => wpAny (model P w) (A.deeper (envOfC qual scope s.heap.objs.size f cd)) (leaving (envOfC qual scope s.heap.objs.size f cd) e) (fun _ s'' => CX outer H s E e s'') (fun e' s'' => CX outer H s E e' s'') s'
theorem cell_has {sc : Scope} {n : Nat} {x : Str} (h : sc.names.lookup x = some .cell) : ∃ c, (cellsFrom n sc.names []).lookup x = some c := by
 have q := PySem.W.cellsFrom_some sc.names n [] (.inl h)
 exact Option.isSome_iff_exists.mp q
theorem inv_start {CX : CXT} {P : Program} {w : World} {K : PySem.W.Frag} {mg : Str → Option Value} {base : Heap} {N ps : List Str} {qual : Str} {scope : Scope} {f : Addr} {cd : Value} {A : Around} {outer : List Env} {s s1 : Shared} {H : Hp} {E : XK} {us : List Value} {vs : List V}
   (S : FnScope N ps scope) (hd : A.handled = none) (e0 : Env0 P w K mg base A outer s H) (hl : vs.length = ps.length) (r : Vals vs us)
   (x : InCallC s s.heap.objs.size (bindL (envOfC qual scope s.heap.objs.size f cd).kindOf (ps.zip us) fun _ => none) (cellsFrom (s.heap.objs.size + 1) scope.names []) (bindC (envOfC qual scope s.heap.objs.size f cd).kindOf (ps.zip us) fun _ => none) s1) :
   Inv (cxOf CX P w K mg base N qual scope f cd A outer s H E) [] (start N vs) H s1 := by
 have hpl : ps.length ≤ N.length := by have := congrArg List.length S.pre; rw [List.length_take] at this; lia
 obtain ⟨h1, tk, rfl, hk⟩ := x.done
 have noA : ∀ b : Addr, b ∉ (cxOf CX P w K mg base N qual scope f cd A outer s H E).ex := fun b z => absurd (show b ∈ ([] : List Addr) from z) (by simp)
 refine ⟨⟨e0.mod, S.kind, rfl, rfl, Nat.le_refl _, fun y z c h1 h2 => ?_, fun y hy => ?_, fun y c _ h => ?_, fun _ => hd, Around.frames_deeper e0.frames, .inr ⟨rfl, rfl⟩, fun b z => absurd z (noA b), e0.bs, e0.bsz, fun b _ _ => noA b, fun b z => absurd z (noA b), e0.funs, e0.frf⟩,
   rfl, e0.bare, Un.kept hk, ⟨_, x.toInCall.ns, fun i y v h1 h2 h3 => ?_⟩, fun y c h => ⟨_, x.cell y c h⟩, e0.hok.fresh (Nat.le_refl _), fun y c h => ?_, fun p hp => absurd (show p ∈ ([] : List (Addr × Obj)) from hp) (by simp), e0.hok.kept hk, ?_⟩
 · exact name_of_addr x.apart (PySem.mem_of_lookup h1) (PySem.mem_of_lookup h2)
 · have hy : scope.names.lookup y = some .cell ∨ scope.names.lookup y = some .free := hy
   rcases hy with hy | hy
   · exact cell_has hy
   · exact absurd rfl (S.nofree _ (PySem.mem_of_lookup hy))
 · exact Nat.le_of_lt (x.above y c (PySem.mem_of_lookup h))
 · have hi : i < vs.length := by
     unfold start at h2
     by_cases hi : i < vs.length
     · exact hi
     · rw [List.getElem?_append_right (by simpa using hi)] at h2
       rw [List.getElem?_replicate] at h2
       split at h2 <;> cases h2
   have ha : vs[i]? = some v := by
     unfold start at h2
     rw [List.getElem?_append_left (by simpa using hi), List.getElem?_map] at h2
     cases e : vs[i]? with
     | none => rw [e] at h2; cases h2
     | some a => rw [e] at h2; cases h2; rfl
   obtain ⟨u, hu, rv⟩ := r.get ha
   have hp : ps[i]? = some y := by
     rw [← S.pre, List.getElem?_take_of_lt (by lia)]; exact h1
   have ndP : ps.Nodup := by rw [← S.pre]; exact S.nd.sublist (List.take_sublist _ _)
   refine ⟨u, rv, ?_⟩
   rcases S.par y (List.mem_of_getElem? hp) with k | k
   · exact .inl ⟨k, bindL_get ndP hp hu k⟩
   · obtain ⟨c, e⟩ := cell_has (n := s.heap.objs.size + 1) k
     refine .inr ⟨.inl k, c, e, ?_⟩
     have q := x.cell y c e
     rw [bindC_get ndP hp hu (by show scope.names.lookup y ≠ _; rw [k]; decide)] at q
     exact q
 · exact e0.hok.fresh (Nat.le_of_lt (x.above y c (PySem.mem_of_lookup h)))
 · unfold start
   show _ = N.length
   rw [List.length_append, List.length_map, List.length_replicate]
   lia
theorem fn_of {CX : CXT} {P : Program} {w : World} {K : PySem.W.Frag} {mg : Str → Option Value} {base : Heap} {k : Nat} {f : Addr} {name qual : Str} {params : Arguments} {body : List Stmt} {scope : Scope} {dV kV doc pm cdv ct oc : Value} {an od : Option Addr}
   {osl : Array (Option Value)} {N ps : List Str} {sp : Sp} (lk : K.lookup f = some ⟨oc, od, .func (PySem.W.fnOf name qual params body scope dV kV doc pm an cdv ct), osl⟩) (hcd : PySem.W.codeIn K cdv qual = true) (S : FnScope N ps scope)
   (len : ∀ vs H Q E, sp vs H Q E → vs.length = ps.length)
   (hbody : ∀ (A : Around) (outer : List Env) (s : Shared) (H : Hp) (vs : List V) (Q : VK) (E : XK), Room k (A.deeper (envOfC qual scope s.heap.objs.size f cdv)) → sp vs H Q E →
     ∃ t, PSs (cxOf CX P w K mg base N qual scope f cdv A outer s H E) body t ∧ t { nx := fun _ H' => Q .non H', rt := Q } (start N vs) H) :
   FnOk P w K mg base CX (k + 1) f (PySem.W.fnOf name qual params body scope dV kV doc pm an cdv ct) ps sp := by
 refine ⟨len, fun A outer s H args us vs Q E hr e0 hb r hsp => ?_⟩
 have hl := len _ _ _ _ hsp
 have KX : K.In s.heap := e0.mod.kin.keeps fun b o e => (e0.bs b o e).1
 have lim : s.heap.NoLimit := e0.mod.nolimit.keeps fun b o e => (e0.bs b o e).1
 have hkind : ∀ y ∈ ps.zip us, scope.names.lookup y.1 = some .local ∨ (scope.names.lookup y.1 = some .cell ∧ ((cellsFrom (s.heap.objs.size + 1) scope.names []).lookup y.1).isSome = true) := fun ⟨n, v⟩ hy => by
   rcases S.par n (List.of_mem_zip hy).1 with q | q
   · exact .inl q
   · exact .inr ⟨q, PySem.W.cellsFrom_some _ _ _ (.inl q)⟩
 refine codeAny_call_function hr.depth (KX _ _ lk) rfl S.co S.gen rfl (PySem.W.codeRec_of KX hcd) (hb _ _ _ _ ?_)
 refine wpAny_newFunctionEnv_cells S.kind hkind fun env he s1 x => ?_
 subst he
 refine ⟨lim.keeps x.toInCall.keep, codeAny_func ?_⟩
 obtain ⟨t, ht, hq⟩ := hbody A outer s H vs Q E (hr.deeper _) hsp
 have I : Inv (cxOf CX P w K mg base N qual scope f cdv A outer s H E) [] (start N vs) H s1 := inv_start S hr.hd e0 hl r x
 refine wpAny_mono (ht [] s1 (start N vs) H _ I hq) (fun fl s' hs => ?_) fun e s' hs => hs
 have fin : ∀ {σ' : St} {H' : Hp} {v : V} {u : Value}, Inv (cxOf CX P w K mg base N qual scope f cdv A outer s H E) [] σ' H' s' → RelV v u → Q v H' → CE outer P w H s Q u s' :=
   fun {σ' H' v u} J rv q => ⟨v, H', J.os, J.bare, J.base, J.hok, rv, q⟩
 cases fl with
 | ret u =>
   obtain ⟨v, σ', H', J, rv, q⟩ := hs
   exact fin J rv q
 | next =>
   obtain ⟨σ', H', J, q⟩ := hs
   exact fin (v := V.non) (u := Value.none) J rfl q
 | brk =>
   obtain ⟨_, _, _, q⟩ := hs
   exact False.elim q
 | cont =>
   obtain ⟨_, _, _, q⟩ := hs
   exact False.elim q
end L2
namespace L2
open PySem PySem.Spec PyProof.Rows
section
variable {X : Cx} {x : Str} {p pos : Pos} {e : Expr} {es : List Expr} {t : TA} {id T : String} {r : List V → Hp → VK → Prop}
noncomputable def tCB (r : List V → Hp → VK → Prop) (t : TA) : TE := fun σ H Q => t σ H fun vs H1 => r vs H1 Q
theorem pe_callB (hc : CallR X (.builtin id) r) (hg : Gl X x) (hm : X.mg x = none) (hv : bootBuiltins x = some (.builtin id)) (ha : PA X (e :: es) t) (hn : x ≠ "__name__" := by decide) (hdb : (x == ("__debug__" : Str)) = false := by decide)
   (he : starEach (e :: es) X.env = (false, eval e X.env) :: starEach es X.env := by rfl) (hpl : (backTo pos (starEach es X.env)).any (·.1) = false := by rfl) : PE X (.Call (.Name x p) (e :: es) [] pos) (tCB r t) := by
 intro pins s σ H Q I h
 refine wpAny_Call_Name_kw (ld_blt I hg hm hv ?_ hn hdb)
 exact PyProof.Rows.callWith_builtin1 (thn (ha pos pins s σ H _ I h) fun us s1 ⟨vs, H1, I1, r1, q1⟩ => hc pins s1 σ H1 vs us Q I1 r1 q1) he hpl
theorem pe_callTy (hc : CallR X (.type T) r) (hg : Gl X x) (hm : X.mg x = none) (hv : bootBuiltins x = some (.type T)) (ha : PA X (e :: es) t) (hn : x ≠ "__name__" := by decide) (hdb : (x == ("__debug__" : Str)) = false := by decide)
   (he : starEach (e :: es) X.env = (false, eval e X.env) :: starEach es X.env := by rfl) (hpl : (backTo pos (starEach es X.env)).any (·.1) = false := by rfl) : PE X (.Call (.Name x p) (e :: es) [] pos) (tCB r t) := by
 intro pins s σ H Q I h
 refine wpAny_Call_Name_kw (ld_blt I hg hm hv ?_ hn hdb)
 exact PyProof.Rows.callWith_type1 (thn (ha pos pins s σ H _ I h) fun us s1 ⟨vs, H1, I1, r1, q1⟩ => hc pins s1 σ H1 vs us Q I1 r1 q1) he hpl
end
end L2
namespace HT
open PySem PyProof.Rows
section
open PySem.SeqAt
open PySem.AutoSeq1 (wpAny_loadPart')
open PySem.MeetsSeq PySem.MeetsSeq2 PySem.MeetsSeq3
end
section
variable {prog : Program} {w : World} {A : Around} {E : Value → Shared → Prop} {s : Shared}
theorem cat_tup {t b : Addr} {vs ws : List Value} {Q : Value → Shared → Prop} (ht : IsTup s.heap t vs.toArray) (hb : IsTup s.heap b ws.toArray) (hv : vs ≠ [])
   (h1 : ws = [] → Q (.ref t) s) (h2 : ws ≠ [] → Q (.ref s.heap.objs.size) { s with heap := s.heap.push { cls := .type "tuple", data := .seq (vs ++ ws).toArray } })
   (hsz : vs.length + ws.length ≤ sizeLine) : wpAny (model prog w) A (binaryOp .Add (.ref t) (.ref b)) Q E s := by
 obtain ⟨⟨cls, dd, data, sl⟩, ho, hc, n, hd⟩ := id ht
 obtain ⟨⟨cls2, dd2, data2, sl2⟩, ho2, hc2, n2, hd2⟩ := id hb
 simp only at hc hd hc2 hd2
 subst hc hd hc2 hd2
 have e : vs.toArray ++ ws.toArray = (vs ++ ws).toArray := by simp
 by_cases hw : ws = []
 · exact concat_meets ⟨_, ho, rfl⟩ ⟨_, ho2, rfl⟩ noFill_tuple_add seq_tuple_add PySem.F.slot_tuple_add PySem.F.entry_tuple_add (PySem.F.args_tuple_add_2 _ _)
     (tuple_addW1 t b vs.toArray ws.toArray n n2 dd dd2 sl sl2 (by simpa using hv) (by simp [hw])) ⟨ho, ho2, h1 hw⟩
 · refine concat_meets ⟨_, ho, rfl⟩ ⟨_, ho2, rfl⟩ noFill_tuple_add seq_tuple_add PySem.F.slot_tuple_add PySem.F.entry_tuple_add (PySem.F.args_tuple_add_2 _ _)
     (tuple_addW2 t b vs.toArray ws.toArray n n2 dd dd2 sl sl2 (by simpa using hv) (by simpa using hw) (by rw [List.size_toArray, List.size_toArray]; exact hsz)) ⟨ho, ho2, ?_⟩
   rw [e]
   exact h2 hw
noncomputable def sIx (n d : Nat) : Option Int → Nat
 | none => d
 | some v => if v < 0 then (v + (n : Int)).toNat else min v.toNat n
theorem sIx_none (n d : Nat) : sIx n d none = d := rfl
theorem sIx_nat (n d k : Nat) : sIx n d (some (k : Int)) = min k n := by
 show (if (k : Int) < 0 then ((k : Int) + (n : Int)).toNat else min (k : Int).toNat n) = min k n
 rw [if_neg (by lia), Int.toNat_natCast]
theorem sIx_le (n d : Nat) (hd : d ≤ n) (o : Option Int) : sIx n d o ≤ n := by
 cases o with
 | none => exact hd
 | some v =>
   show (if v < 0 then (v + (n : Int)).toNat else min v.toNat n) ≤ n
   by_cases hv : v < 0
   · rw [if_pos hv]; lia
   · rw [if_neg hv]; exact Nat.min_le_right _ _
theorem clip_eq (v : Int) (n d : Nat) : (if v < 0 then max (v + (n : Int)) 0 else min v (n : Int)) = ((sIx n d (some v) : Nat) : Int) := by
 show (if v < 0 then max (v + (n : Int)) 0 else min v (n : Int)) = (((if v < 0 then (v + (n : Int)).toNat else min v.toNat n) : Nat) : Int)
 by_cases hv : v < 0
 · simp only [if_pos hv]; lia
 · simp only [if_neg hv]; lia
theorem adjust_gen (lo hi : Option Int) (n : Nat) : Builtin.Slice.sliceAdjust lo hi 1 (n : Int) = (((sIx n 0 lo : Nat) : Int), ((sIx n n hi : Nat) : Int)) := by
 have h1 : ¬ ((1 : Int) < 0) := by lia
 unfold Builtin.Slice.sliceAdjust
 simp only [h1, if_false]
 refine Prod.ext ?_ ?_
 · cases lo with
   | none => rfl
   | some v => exact clip_eq v n 0
 · cases hi with
   | none => rfl
   | some v => exact clip_eq v n n
theorem places_gen (i j : Nat) : Builtin.Slice.slicePlaces (i : Int) (j : Int) 1 = j - i := by
 unfold Builtin.Slice.slicePlaces
 have h1 : (1 : Int) > 0 := by lia
 simp only [h1, if_true, Int.ediv_one]
 split <;> lia
theorem slicePart_ {v : Value} {o : Option Int} {Q : Option Int → Shared → Prop} (p : IsPart v o) (h : Q o s) : wpAny (model prog w) A (Builtin.Slice.slicePartIndex v) Q E s := by
 cases p with
 | none => exact slicePart_none h
 | int i t => exact slicePart_int h
theorem sliceApplied_gen {sl : Addr} {vl vu : Value} {lo hi : Option Int} {n : Nat} {Q : Int × Int × Nat → Shared → Prop} (hs : s.heap.IsSliceOf sl vl vu .none) (pl : IsPart vl lo) (pu : IsPart vu hi)
   (h : Q (((sIx n 0 lo : Nat) : Int), 1, sIx n n hi - sIx n 0 lo) s) : wpAny (model prog w) A (Builtin.Slice.sliceApplied (.ref sl) (pure (n : Int))) Q E s := by
 obtain ⟨os, hos, hcs, hds⟩ := id hs
 unfold Builtin.Slice.sliceApplied Builtin.Slice.sliceFields
 refine wpAny_bind (wpAny_bind (wpAny_field hos hds (x := vl) rfl (wpAny_bind (wpAny_field hos hds (x := vu) rfl (wpAny_bind (wpAny_field hos hds (x := .none) rfl (wpAny_pure ?_)))))))
 refine wpAny_bind (slicePart_none ?_)
 show wpAny _ _ (if ((1 : Int) == 0) = true then _ else _) _ _ s
 rw [if_neg (by decide)]
 refine wpAny_bind (slicePart_ pl (wpAny_bind (slicePart_ pu (wpAny_bind (wpAny_pure ?_)))))
 show wpAny _ _ (match Builtin.Slice.sliceAdjust lo hi 1 (n : Int) with | (lo, hi) => pure (lo, (1 : Int), Builtin.Slice.slicePlaces lo hi 1)) _ _ s
 rw [adjust_gen lo hi n]
 show wpAny _ _ (pure (((sIx n 0 lo : Nat) : Int), (1 : Int), Builtin.Slice.slicePlaces ((sIx n 0 lo : Nat) : Int) ((sIx n n hi : Nat) : Int) 1)) _ _ s
 rw [places_gen]
 exact wpAny_pure h
theorem pick_gen (xs : Array Value) (i k : Nat) : ((List.range k).filterMap fun (m : Nat) => xs[((i : Int) + (m : Int) * 1).toNat]?).toArray = ((xs.toList.drop i).take k).toArray := by
 have e : (fun (m : Nat) => xs[((i : Int) + (m : Int) * 1).toNat]?) = fun m => xs[i + m]? := by
   funext m
   have : ((i : Int) + (m : Int) * 1).toNat = i + m := by lia
   rw [this]
 rw [e]
 have := pick_run xs i k
 rw [List.filterMap_map] at this
 have e2 : ((fun x => xs[x]?) ∘ fun x => i + x) = fun m => xs[i + m]? := rfl
 rw [e2] at this
 rw [this]
theorem getItem_tuple_cut {t sl : Addr} {items : Array Value} {vl vu : Value} {lo hi : Option Int} {Q : Value → Shared → Prop} (ht : IsTup s.heap t items) (hs : s.heap.IsSliceOf sl vl vu .none) (pl : IsPart vl lo) (pu : IsPart vu hi)
   (hw : ¬ (sIx items.size 0 lo = 0 ∧ sIx items.size items.size hi = items.size))
   (h : Q (.ref s.heap.objs.size) { s with heap := s.heap.push { cls := .type "tuple", data := .seq ((items.toList.drop (sIx items.size 0 lo)).take (sIx items.size items.size hi - sIx items.size 0 lo)).toArray } })
   (hsz : items.size ≤ sizeLine) : wpAny (model prog w) A (getItem (.ref t) (.ref sl)) Q E s := by
 have htake : sizeOk (.seq ((items.toList.drop (sIx items.size 0 lo)).take (sIx items.size items.size hi - sIx items.size 0 lo)).toArray) := by
   show ((items.toList.drop (sIx items.size 0 lo)).take (sIx items.size items.size hi - sIx items.size 0 lo)).toArray.size ≤ sizeLine
   rw [List.size_toArray, List.length_take, List.length_drop, Array.length_toList]
   lia
 have hj : sIx items.size items.size hi ≤ items.size := sIx_le _ _ (Nat.le_refl _) hi
 obtain ⟨os, hos, hcs, hds⟩ := id hs
 have hTs : s.TypeIs (.ref sl) "slice" := ⟨os, hos, hcs⟩
 unfold getItem
 try with_reducible refine wpAny_holding ?_
 first | refine wpAny_bind (wpAny_pure ?_) | skip
 refine wpAny_bind (wpAny_sequenceKey ht.typeIs (by decide) ?_)
 refine wpAny_bind (wpAny_callSpecial?_slot (name := Str.ofString "__getitem__") ht.typeIs PyProof.Rows.slot_tuple_getitem
   (wpAny_call_entry PyProof.Rows.slot_tuple_getitem ht.typeIs entry_tuple_getitem ?_ (args_tuple_getitem _ _)))
 show wpAny _ _ (Builtin.Tuple.tupleItemsOf (.ref t) >>= _) _ _ s
 refine wpAny_bind (tupleItemsOf_ ht ?_)
 refine wpAny_bind (wpAny_typeOf hTs ?_)
 rw [if_pos (by decide)]
 refine wpAny_bind (sliceApplied_gen hs pl pu ?_)
 have hno : ¬ ((((sIx items.size 0 lo : Nat) : Int) == 0 && (1 : Int) == 1 && (sIx items.size items.size hi - sIx items.size 0 lo) == items.size) = true) := by
   intro q
   rw [Bool.and_eq_true, Bool.and_eq_true] at q
   have q1 : ((sIx items.size 0 lo : Nat) : Int) = 0 := eq_of_beq q.1.1
   have q2 : sIx items.size items.size hi - sIx items.size 0 lo = items.size := eq_of_beq q.2
   exact hw ⟨by lia, by lia⟩
 show wpAny _ _ (if (((sIx items.size 0 lo : Nat) : Int) == 0 && (1 : Int) == 1 && (sIx items.size items.size hi - sIx items.size 0 lo) == items.size) = true then _ else _) _ _ s
 rw [if_neg hno, pick_gen]
 first
   | exact wpAny_bind (m := Builtin.Tuple.tupleExact _) (wpAny_newObj_type (wpAny_pure ⟨_, rfl, wpAny_pure h⟩) htake)
   | exact wpAny_bind (m := Builtin.Tuple.tupleExact _) (wpAny_newObj_type (wpAny_bind (wpAny_pure (wpAny_pure ⟨_, rfl, wpAny_pure h⟩))) htake)
   | exact wpAny_bind (wpAny_bind (m := Builtin.Tuple.tupleExact _) (wpAny_newObj_type (wpAny_pure (wpAny_pure ⟨_, rfl, wpAny_pure h⟩)) htake))
   | exact wpAny_bind (wpAny_bind (m := Builtin.Tuple.tupleExact _) (wpAny_newObj_type (wpAny_pure ⟨_, rfl, wpAny_pure h⟩) htake))
end
end HT
namespace L2
open PySem PySem.Spec PyProof.Rows
noncomputable abbrev TO := St → Hp → (Option Int → Hp → Prop) → Prop
noncomputable def PO (X : Cx) (e : Option Expr) (t : TO) : Prop :=
 ∀ (pins : List (Addr × Obj)) (s : Shared) (σ : St) (H : Hp) (Q : Option Int → Hp → Prop), Inv X pins σ H s → t σ H Q →
   wpAny (model X.prog X.w) X.A (evalPart e X.env) (fun u s' => ∃ o H', Inv X pins σ H' s' ∧ IsPart u o ∧ Q o H') X.xe s
noncomputable def tNoPart : TO := fun _ H Q => Q none H
noncomputable def tPart (t : TE) : TO := fun σ H Q => t σ H fun x H1 => ∃ i, x = .int i ∧ Q (some i) H1
theorem intsAre_of {ns : List Int} : ∀ {us : List Value}, Vals (ns.map V.int) us → IntsAre us ns := by
 induction ns with
 | nil => intro us r; rw [List.map_nil] at r; cases r; exact .nil
 | cons n ns ih =>
   intro us r
   rw [List.map_cons] at r
   cases r with
   | cons r1 r2 =>
     obtain ⟨t, e⟩ := r1
     subst e
     exact .cons n t (ih r2)
section
variable {X : Cx} {e : Expr} {te : TE} {lo hi : Option Expr} {tl th : TO} {pos p2 : Pos}
theorem po_none : PO X none tNoPart := by
 intro pins s σ H Q I h
 rw [evalPart_none]
 exact wpAny_pure ⟨none, H, I, .none, h⟩
theorem po_some (h : PE X e te) : PO X (some e) (tPart te) := by
 intro pins s σ H Q I hw
 rw [evalPart_some]
 refine thn (h pins s σ H _ I hw) fun u s1 ⟨x, H1, I1, r1, q1⟩ => ?_
 obtain ⟨i, rfl, q⟩ := q1
 obtain ⟨t, rfl⟩ := r1
 exact ⟨some i, H1, I1, .int i t, q⟩
noncomputable def SlR (X : Cx) (r : V → Option Int → Option Int → Hp → VK → Prop) : Prop :=
 ∀ (pins : List (Addr × Obj)) (s : Shared) (σ : St) (H : Hp) (x : V) (v vl vu : Value) (lo hi : Option Int) (sl : Addr) (Q : VK), Inv X pins σ H s → RelV x v → s.heap.IsSliceOf sl vl vu .none → IsPart vl lo → IsPart vu hi → r x lo hi H Q →
   ∃ T id, typeLookup (.type T) "__getitem__" = pure (some (.builtin id)) ∧ s.TypeIs v T ∧ wpAny (model X.prog X.w) X.A (getItem v (.ref sl)) (EP X pins σ Q) X.xe s
theorem SlR.or {r r' : V → Option Int → Option Int → Hp → VK → Prop} (h : SlR X r) (h' : SlR X r') : SlR X (fun x lo hi H Q => r x lo hi H Q ∨ r' x lo hi H Q) := by
 intro pins s σ H x v vl vu lo hi sl Q I rx hs pl pu q
 rcases q with q | q
 · exact h pins s σ H x v vl vu lo hi sl Q I rx hs pl pu q
 · exact h' pins s σ H x v vl vu lo hi sl Q I rx hs pl pu q
noncomputable def tSl (r : V → Option Int → Option Int → Hp → VK → Prop) (te : TE) (tl th : TO) : TE := fun σ H Q => te σ H fun x H1 => tl σ H1 fun l H2 => th σ H2 fun u H3 => r x l u H3 Q
theorem pe_slice {r : V → Option Int → Option Int → Hp → VK → Prop} (hr : SlR X r) (he : PE X e te) (hl : PO X lo tl) (hu : PO X hi th) : PE X (.Subscript e (.Slice lo hi none p2) pos) (tSl r te tl th) := by
 intro pins s σ H Q I h
 refine Subscript_ (thn (he pins s σ H _ I h) fun v s1 ⟨x, H1, I1, r1, q1⟩ => ?_)
 refine wpAny_Slice (thn (hl pins s1 σ H1 _ I1 q1) fun vl s2 ⟨l, H2, I2, pl, q2⟩ => thn (hu pins s2 σ H2 _ I2 q2) fun vu s3 ⟨u, H3, I3, pu, q3⟩ => ?_)
 rw [evalPart_none]
 refine wpAny_pure ?_
 have I4 : Inv X pins σ H3 { s3 with heap := s3.heap.push { cls := .type "slice", data := .fields #[vl, vu, .none] } } := I3.kept (t' := s3.toks) fun b ob q => Heap.get?_push_of_some _ q
 obtain ⟨T, id, hT, ht, hg⟩ := hr pins { s3 with heap := s3.heap.push { cls := .type "slice", data := .fields #[vl, vu, .none] } } σ H3 x v vl vu l u s3.heap.objs.size Q I4 r1 (Heap.IsSliceOf.new ..) pl pu q3
 show wpAny (model X.prog X.w) X.A (subscriptTail e (.Slice lo hi none p2) v (.ref s3.heap.objs.size)) (EP X pins σ Q) X.xe { s3 with heap := s3.heap.push { cls := .type "slice", data := .fields #[vl, vu, .none] } }
 exact tail_any (ops := [.ref s3.heap.objs.size, v]) ht hT hg (by with_unfolding_all rfl)
noncomputable def cutV (xs : List V) (lo hi : Option Int) : List V := (xs.drop (HT.sIx xs.length 0 lo)).take (HT.sIx xs.length xs.length hi - HT.sIx xs.length 0 lo)
theorem cutV_length (xs : List V) (lo hi : Option Int) : (cutV xs lo hi).length ≤ xs.length := by
 unfold cutV
 rw [List.length_take, List.length_drop]
 lia
noncomputable def rSlT (K : PySem.W.Frag) : V → Option Int → Option Int → Hp → VK → Prop := fun x lo hi H Q => ∃ a xs, x = .ref a ∧ SqT K H a xs ∧
 ¬ (HT.sIx xs.length 0 lo = 0 ∧ HT.sIx xs.length xs.length hi = xs.length) ∧ ∀ p, H p = none → Q (.ref p) (upd H p (.tup (cutV xs lo hi)))
theorem sl_tup : SlR X (rSlT X.K) := by
 intro pins s σ H x v vl vu lo hi sl Q I rx hs pl pu h
 obtain ⟨a, xs, rfl, hx, hw, q⟩ := h
 cases rx
 obtain ⟨its, r, ht, hz⟩ := I.tuple hx
 have hlen : its.toArray.size = xs.length := by rw [List.size_toArray]; exact r.length.symm
 refine ⟨"tuple", _, PyProof.Rows.slot_tuple_getitem.lookup, ht.typeIs, ?_⟩
 refine HT.getItem_tuple_cut ht hs pl pu (by rw [hlen]; exact hw) ?_ (by rw [hlen]; exact hz)
 rw [hlen]
 refine ⟨.ref s.heap.objs.size, _, I.laid (t' := s.toks) (o := .tup (cutV xs lo hi)) (fun b ob q => Heap.get?_push_of_some _ q) (Nat.le_refl _) ?_, rfl, q _ (I.hok.fresh (Nat.le_refl _))⟩
 exact ⟨Nat.le_trans (cutV_length xs lo hi) hz, _, (r.drop (HT.sIx xs.length 0 lo)).take (HT.sIx xs.length xs.length hi - HT.sIx xs.length 0 lo), IsTup0.new _ _⟩
noncomputable def rCatT (K : PySem.W.Frag) : R2 := fun x y H Q => ∃ a b xs ys, x = .ref a ∧ y = .ref b ∧ SqT K H a xs ∧ SqT K H b ys ∧ xs ≠ [] ∧ xs.length + ys.length ≤ sizeLine ∧
 (ys = [] → Q (.ref a) H) ∧ (ys ≠ [] → ∀ p, H p = none → Q (.ref p) (upd H p (.tup (xs ++ ys))))
theorem Vals.nil_iff {xs : List V} {us : List Value} (r : Vals xs us) : us = [] ↔ xs = [] := by
 cases r with
 | nil => simp
 | cons _ _ => simp
theorem op_catT : OpR X (binaryOp .Add) (rCatT X.K) := by
 intro pins s σ H x y v u Q I rx ry h
 obtain ⟨a, b, xs, ys, rfl, rfl, ha, hb, hx, hz, q1, q2⟩ := h
 cases rx
 cases ry
 obtain ⟨its, r1, p1, _⟩ := I.tuple ha
 obtain ⟨its2, r2, p2, _⟩ := I.tuple hb
 refine HT.cat_tup p1 p2 (fun z => hx (r1.nil_iff.mp z)) (fun z => ⟨.ref a, H, I, rfl, q1 (r2.nil_iff.mp z)⟩) (fun z => ?_) (by rw [← r1.length, ← r2.length]; exact hz)
 refine ⟨.ref s.heap.objs.size, _, I.laid (t' := s.toks) (o := .tup (xs ++ ys)) (fun b ob q => Heap.get?_push_of_some _ q) (Nat.le_refl _) ?_, rfl, q2 (fun w => z (r2.nil_iff.mpr w)) _ (I.hok.fresh (Nat.le_refl _))⟩
 exact ⟨by rw [List.length_append]; exact hz, _, r1.append r2, IsTup0.new _ _⟩
end
end L2
namespace L2
open PySem PySem.Spec PyProof.Rows
noncomputable def ixN (n : Nat) (i : Int) : Option Nat := if 0 ≤ i then (if i < n then some i.toNat else none) else if -(n : Int) ≤ i then some (i + n).toNat else none
noncomputable def atI {α : Type} (xs : List α) (i : Int) : Option α := (ixN xs.length i).bind fun j => xs[j]?
theorem ixN_seq {n : Nat} {i : Int} {j : Nat} (h : ixN n i = some j) : seqIndex? i n = some j ∧ j < n ∧ -(n : Int) ≤ i ∧ i < n := by
 unfold ixN at h
 by_cases h0 : 0 ≤ i
 · rw [if_pos h0] at h
   by_cases h1 : i < n
   · rw [if_pos h1] at h
     have e : i.toNat = j := Option.some.inj h
     exact ⟨by rw [seqIndex_of h0 h1, e], by lia, by lia, h1⟩
   · rw [if_neg h1] at h; cases h
 · rw [if_neg h0] at h
   by_cases h1 : -(n : Int) ≤ i
   · rw [if_pos h1] at h
     have e : (i + n).toNat = j := Option.some.inj h
     exact ⟨by rw [seqIndex_neg (by lia) h1, e], by lia, h1, by lia⟩
   · rw [if_neg h1] at h; cases h
theorem atI_get {α : Type} {xs : List α} {i : Int} {v : α} (h : atI xs i = some v) : ∃ j, seqIndex? i xs.length = some j ∧ xs[j]? = some v ∧ j < xs.length ∧ -(xs.length : Int) ≤ i ∧ i < xs.length := by
 unfold atI at h
 cases e : ixN xs.length i with
 | none => rw [e] at h; cases h
 | some j =>
   rw [e] at h
   obtain ⟨h1, h2, h3, h4⟩ := ixN_seq e
   exact ⟨j, h1, h, h2, h3, h4⟩
theorem atI_nat {α : Type} {xs : List α} {j : Nat} {v : α} (h : xs[j]? = some v) : atI xs (j : Int) = some v := by
 have hj : j < xs.length := (List.getElem?_eq_some_iff.mp h).1
 have e : ixN xs.length (j : Int) = some j := by
   unfold ixN
   rw [if_pos (by lia), if_pos (by lia)]; simp
 unfold atI; rw [e]; exact h
noncomputable def PlainIx (b : Expr) : Prop := ∀ o i, subscripted b false o i = operate [o, i] (getItem o i)
noncomputable def IxR (X : Cx) (r : R2) : Prop :=
 ∀ (value slice : Expr) (pins : List (Addr × Obj)) (s : Shared) (σ : St) (H : Hp) (x y : V) (v u : Value) (Q : VK), Inv X pins σ H s → RelV x v → RelV y u → r x y H Q →
   subscripted slice false v u = operate [v, u] (getItem v u) → wpAny (model X.prog X.w) X.A (subscriptTail value slice v u) (EP X pins σ Q) X.xe s
noncomputable def MtR (X : Cx) (id : String) (r : V → List V → Hp → VK → Prop) : Prop :=
 ∀ (pins : List (Addr × Obj)) (s : Shared) (σ : St) (H : Hp) (x : V) (xs : List V) (v : Value) (us : List Value) (Q : VK), Inv X pins σ H s → RelV x v → Vals xs us → r x xs H Q →
   wpAny (model X.prog X.w) X.A (call (.builtin id) (v :: us)) (EP X pins σ Q) X.xe s
section
variable {X : Cx} {a b : Expr} {ta tb : TE} {pos : Pos}
theorem pe_ix {r : R2} (hr : IxR X r) (ha : PE X a ta) (hb : PE X b tb) (hs : PlainIx b) : PE X (.Subscript a b pos) (tOp r ta tb) := by
 intro pins s σ H Q I h
 exact Subscript_ (binT ha hb I h fun v u s2 x y H2 I2 rx ry q => hr a b pins s2 σ H2 x y v u Q I2 rx ry q (hs _ _))
noncomputable def rIxL (K : PySem.W.Frag) : R2 := fun x y H Q => ∃ p xs i v, x = .ref p ∧ y = .int i ∧ SqL K H p xs ∧ atI xs i = some v ∧ Q v H
noncomputable def rIxT (K : PySem.W.Frag) : R2 := fun x y H Q => ∃ p xs i v, x = .ref p ∧ y = .int i ∧ SqT K H p xs ∧ atI xs i = some v ∧ Q v H
noncomputable def rIxS : R2 := fun x y H Q => ∃ z i c, x = .str z ∧ y = .int i ∧ z.length ≤ sizeLine ∧ atI z.cps.toList i = some c ∧ Q (.str ⟨#[c]⟩) H
theorem ix_list : IxR X (rIxL X.K) := by
 intro value slice pins s σ H x y v u Q I rx ry h hs
 obtain ⟨p, xs, i, z, rfl, rfl, hq, he, q⟩ := h
 cases rx
 obtain ⟨t, rfl⟩ := ry
 obtain ⟨its, r, pl, hz⟩ := I.list hq
 obtain ⟨j, h1, h2, h3, h4, h5⟩ := atI_get he
 obtain ⟨w, ew, rw'⟩ := r.get h2
 have hl := r.length
 have hn := line63
 have fin : EP X pins σ Q w s := ⟨z, H, I, rw', q⟩
 by_cases h0 : 0 ≤ i
 · have hj : i.toNat = j := by
     rw [seqIndex_of h0 h5] at h1
     exact Option.some.inj h1
   exact item_listR pl.isList h0 (by lia) (by rw [hj]; simpa using ew) fin hs
 · have hj : (i + (its.toArray.size : Int)).toNat = j := by
     rw [seqIndex_neg (by lia) h4] at h1
     rw [List.size_toArray, ← hl]
     exact Option.some.inj h1
   exact subscriptTail_builtinR (x := w) pl.isList.typeIs slot_list_getitem.lookup
     (wpAny_getItem_list_neg (Q := fun r s' => r = w ∧ EP X pins σ Q r s') pl.isList (by lia) (by rw [List.size_toArray] <;> lia) (by lia) (by rw [hj]; simpa using ew) ⟨rfl, fin⟩) hs
theorem ix_tup : IxR X (rIxT X.K) := by
 intro value slice pins s σ H x y v u Q I rx ry h hs
 obtain ⟨p, xs, i, z, rfl, rfl, hq, he, q⟩ := h
 cases rx
 obtain ⟨t, rfl⟩ := ry
 obtain ⟨its, r, pl, hz⟩ := I.tuple hq
 obtain ⟨j, h1, h2, h3, h4, h5⟩ := atI_get he
 obtain ⟨w, ew, rw'⟩ := r.get h2
 have hl := r.length
 have hn := line63
 have fin : EP X pins σ Q w s := ⟨z, H, I, rw', q⟩
 exact subscriptTail_builtinR (x := w) pl.typeIs slot_tuple_getitem.lookup
   (getItem_tuple (j := j) (Q := fun r s' => r = w ∧ EP X pins σ Q r s') pl (by lia) (by lia) (by rw [List.size_toArray, ← hl]; exact h1) (by simpa using ew) ⟨rfl, fin⟩) hs
theorem ix_str : IxR X rIxS := by
 intro value slice pins s σ H x y v u Q I rx ry h hs
 obtain ⟨z, i, c, rfl, rfl, hz, he, q⟩ := h
 obtain ⟨t, rfl⟩ := rx
 obtain ⟨t', rfl⟩ := ry
 obtain ⟨j, h1, h2, h3, h4, h5⟩ := atI_get he
 have hl : z.cps.toList.length = z.length := by simp [Str.length]
 rw [hl] at h1 h4 h5
 have hn := line63
 exact tail_any (typeIs_str s z t) slot_str_getitem.lookup (getItem_str (c := c) (by
   have e1 : decide (i < -(2 ^ 63 : Int)) = false := decide_eq_false (by lia)
   have e2 : decide (i ≥ 2 ^ 63) = false := decide_eq_false (by lia)
   rw [e1, e2, Bool.or_false]) (by rw [h1]; simpa using h2) ⟨.str ⟨#[c]⟩, H, I.tok _, ⟨_, rfl⟩, q⟩) hs
theorem mapSeq_set (its : List Value) (n j : Nat) (u : Value) : Obj.mapSeq (·.setIfInBounds j u) { cls := .type "list", data := .seq its.toArray n } = { cls := .type "list", data := .seq (its.set j u).toArray n } := by
 simp [Obj.mapSeq]
theorem Inv.lst {pins : List (Addr × Obj)} {σ : St} {H : Hp} {s : Shared} {p : Addr} {xs : List V} (I : Inv X pins σ H s) (h : H p = some (.lst xs)) :
   ∃ (its : List Value) (n : Nat), Vals xs its ∧ s.heap.get? p = some { cls := .type "list", data := .seq its.toArray n } ∧ xs.length ≤ sizeLine := by
 obtain ⟨z, its, n, r, e⟩ := I.hok p _ h
 exact ⟨its, n, r, e, z⟩
theorem Inv.lstUpd {pins : List (Addr × Obj)} {σ : St} {H : Hp} {s : Shared} {p : Addr} {xs ys : List V} {its its' : List Value} {n n' : Nat} {f : Obj → Obj} (I : Inv X pins σ H s) (h : H p = some (.lst xs))
   (ho : s.heap.get? p = some { cls := .type "list", data := .seq its.toArray n }) (hf : f { cls := .type "list", data := .seq its.toArray n } = { cls := .type "list", data := .seq its'.toArray n' }) (r : Vals ys its') (hz : ys.length ≤ sizeLine) (t : Nat) :
   Inv X pins σ (upd H p (.lst ys)) { s with heap := s.heap.update p f, toks := t } := by
 have e : (s.heap.update p f).get? p = some { cls := .type "list", data := .seq its'.toArray n' } := by
   rw [Heap.get?_update_self f ho (by rw [hf] <;> rfl), hf]
 refine I.write (x := p) (e := p) (by rw [h]; trivial) (.inl rfl) (fun b u hb q => (Heap.get?_update_other _ _ (Ne.symm hb)).trans q) ⟨_, e⟩ ?_
 exact ⟨hz, its', n', r, e⟩
noncomputable def rSetL : V → V → V → Hp → (Hp → Prop) → Prop := fun o i v H Q => ∃ p xs k j, o = .ref p ∧ i = .int k ∧ H p = some (.lst xs) ∧ ixN xs.length k = some j ∧ Q (upd H p (.lst (xs.set j v)))
theorem set_list : PSet X rSetL := by
 intro pins s σ H o i v ov iv u Q I ro ri rv h
 obtain ⟨p, xs, k, j, rfl, rfl, hp, hj, q⟩ := h
 cases ro
 obtain ⟨t, rfl⟩ := ri
 obtain ⟨its, n, r, ho, hz⟩ := I.lst hp
 obtain ⟨h1, h2, h3, h4⟩ := ixN_seq hj
 have hl := r.length
 have hn := line63
 have I' : Inv X pins σ (upd H p (.lst (xs.set j v))) { s with heap := s.heap.update p (Obj.mapSeq (·.setIfInBounds j u)) } :=
   I.lstUpd hp ho (mapSeq_set its n j u) (r.set rv j) (by rw [List.length_set]; exact hz) s.toks
 by_cases h0 : 0 ≤ k
 · have hk : k.toNat = j := by
     rw [seqIndex_of h0 h4] at h1
     exact Option.some.inj h1
   exact PySem.W.ki_setAt ho h0 (by lia) (by rw [List.size_toArray, ← hl]; exact h4) (by rw [hk]; exact ⟨_, I', q⟩)
 · have hk : (k + (its.toArray.size : Int)).toNat = j := by
     rw [seqIndex_neg (by lia) h3] at h1
     rw [List.size_toArray, ← hl]
     exact Option.some.inj h1
   exact PySem.W.ki_setBack ho (by lia) (by rw [List.size_toArray, ← hl]; exact h3) (by lia) (by rw [hk]; exact ⟨_, I', q⟩)
theorem slice_bounds (lo hi : Option Int) (n : Nat) : (sliceBounds lo hi none n).1 = ((HT.sIx n 0 lo : Nat) : Int) ∧ (sliceBounds lo hi none n).2.1 = ((HT.sIx n n hi : Nat) : Int) ∧ (sliceBounds lo hi none n).2.2 = 1 := by
 refine ⟨?_, ?_, rfl⟩
 · cases lo with
   | none => simp [sliceBounds, HT.sIx]
   | some i =>
     simp only [sliceBounds, HT.sIx, Option.getD_none, show (1 : Int) > 0 by decide, if_true]
     by_cases h : i < 0
     · simp only [h, if_true] <;> lia
     · simp only [h, if_false] <;> lia
 · cases hi with
   | none => simp [sliceBounds, HT.sIx]
   | some i =>
     simp only [sliceBounds, HT.sIx, Option.getD_none, show (1 : Int) > 0 by decide, if_true]
     by_cases h : i < 0
     · simp only [h, if_true] <;> lia
     · simp only [h, if_false] <;> lia
theorem slicePick_cut (its : List Value) (lo hi : Option Int) : slicePick its.toArray lo hi none = ((its.drop (HT.sIx its.length 0 lo)).take (HT.sIx its.length its.length hi - HT.sIx its.length 0 lo)).toArray := by
 obtain ⟨h1, h2, h3⟩ := slice_bounds lo hi its.toArray.size
 unfold slicePick
 rw [h1, h2, h3]
 simp only [sliceRange_one, pick_run, List.size_toArray] <;> rfl
noncomputable def rSlL (K : PySem.W.Frag) : V → Option Int → Option Int → Hp → VK → Prop := fun x lo hi H Q => ∃ a xs, x = .ref a ∧ SqL K H a xs ∧ ∀ p, H p = none → Q (.ref p) (upd H p (.lst (cutV xs lo hi)))
theorem sl_list : SlR X (rSlL X.K) := by
 intro pins s σ H x v vl vu lo hi sl Q I rx hs pl pu h
 obtain ⟨a, xs, rfl, hx, q⟩ := h
 cases rx
 obtain ⟨its, r, ht, hz⟩ := I.list hx
 have hlen := r.length
 refine ⟨"list", _, slot_list_getitem.lookup, ht.isList.typeIs, ?_⟩
 refine wpAny_getItem_list_slice ht.isList hs pl pu .none (by simp) ?_ (by rw [List.size_toArray] <;> lia)
 rw [slicePick_cut, ← hlen]
 refine ⟨.ref s.heap.objs.size, _, I.laid (t' := s.toks) (o := .lst (cutV xs lo hi)) (fun b ob q => Heap.get?_push_of_some _ q) (Nat.le_refl _) ?_, rfl, q _ (I.hok.fresh (Nat.le_refl _))⟩
 exact ⟨Nat.le_trans (cutV_length xs lo hi) hz, _, 0, (r.drop (HT.sIx xs.length 0 lo)).take (HT.sIx xs.length xs.length hi - HT.sIx xs.length 0 lo), Heap.get?_push_size _ rfl⟩
noncomputable def flatV : V → Bool
 | .non => true
 | .bl _ => true
 | .int _ => true
 | .str _ => true
 | _ => false
noncomputable def eqV : V → V → Bool
 | .non, .non => true
 | .bl a, .bl b => a == b
 | .bl a, .int b => (if a then 1 else 0) == b
 | .int a, .bl b => a == (if b then 1 else 0)
 | .int a, .int b => a == b
 | .str a, .str b => a == b
 | _, _ => false
theorem eqAt_V {A : Around} {s : Shared} {y x : V} {u v : Value} (ry : RelV y u) (rx : RelV x v) (fy : flatV y = true) (fx : flatV x = true) : SeqAt.EqAt A s u v (eqV y x) := by
 cases y with
 | non =>
   cases ry
   cases x with
   | non => cases rx; exact SeqAt.EqAt.same _
   | bl b => cases rx; exact SeqAt.EqAt.none_bool b
   | int b => obtain ⟨t, rfl⟩ := rx; exact SeqAt.EqAt.none_int b t
   | str b => obtain ⟨t, rfl⟩ := rx; exact SeqAt.EqAt.none_str b t
   | _ => exact absurd (show false = true from fx) Bool.false_ne_true
 | bl a =>
   cases ry
   cases x with
   | non => cases rx; exact SeqAt.EqAt.bool_none a
   | bl b => cases rx; exact SeqAt.EqAt.bool_bool a b
   | int b => obtain ⟨t, rfl⟩ := rx; exact SeqAt.EqAt.bool_int a b t
   | str b => obtain ⟨t, rfl⟩ := rx; exact SeqAt.EqAt.bool_str a b t
   | _ => exact absurd (show false = true from fx) Bool.false_ne_true
 | int a =>
   obtain ⟨t', rfl⟩ := ry
   cases x with
   | non => cases rx; exact SeqAt.EqAt.int_none a t'
   | bl b => cases rx; exact SeqAt.EqAt.int_bool a t' b
   | int b => obtain ⟨t, rfl⟩ := rx; exact SeqAt.EqAt.int_int a t' b t
   | str b => obtain ⟨t, rfl⟩ := rx; exact SeqAt.EqAt.int_str a t' b t
   | _ => exact absurd (show false = true from fx) Bool.false_ne_true
 | str a =>
   obtain ⟨t', rfl⟩ := ry
   cases x with
   | non => cases rx; exact SeqAt.EqAt.str_none a t'
   | bl b => cases rx; exact SeqAt.EqAt.str_bool a t' b
   | int b => obtain ⟨t, rfl⟩ := rx; exact SeqAt.EqAt.str_int a t' b t
   | str b => obtain ⟨t, rfl⟩ := rx; exact SeqAt.EqAt.str_str a t' b t
   | _ => exact absurd (show false = true from fx) Bool.false_ne_true
 | _ => exact absurd (show false = true from fy) Bool.false_ne_true
noncomputable def eqU (x : V) (u : Value) : Bool := match u with
 | .none => eqV .non x
 | .bool b => eqV (.bl b) x
 | .int i _ => eqV (.int i) x
 | .str z _ => eqV (.str z) x
 | _ => false
theorem eqU_of {x y : V} {u : Value} (r : RelV y u) (f : flatV y = true) : eqU x u = eqV y x := by
 cases y with
 | non => cases r; rfl
 | bl b => cases r; rfl
 | int i => obtain ⟨t, rfl⟩ := r; rfl
 | str z => obtain ⟨t, rfl⟩ := r; rfl
 | _ => exact absurd (show false = true from f) Bool.false_ne_true
theorem any_eqU {x : V} : ∀ {xs : List V} {us : List Value}, Vals xs us → xs.all flatV = true → us.any (eqU x) = xs.any fun y => eqV y x
 | _, _, .nil, _ => rfl
 | y :: xs, u :: us, .cons r t, f => by
   rw [List.all_cons, Bool.and_eq_true] at f
   rw [List.any_cons, List.any_cons, eqU_of r f.1, any_eqU t f.2]
theorem mem_eqAt {A : Around} {s : Shared} {x : V} {v : Value} (rx : RelV x v) (fx : flatV x = true) : ∀ {xs : List V} {us : List Value}, Vals xs us → xs.all flatV = true → ∀ u ∈ us, SeqAt.EqAt A s u v (eqU x u)
 | _, _, .nil, _ => fun u hu => by cases hu
 | y :: xs, u :: us, .cons r t, f => fun u' hu => by
   rw [List.all_cons, Bool.and_eq_true] at f
   rcases List.mem_cons.mp hu with rfl | hu
   · rw [eqU_of r f.1]; exact eqAt_V r rx f.1 fx
   · exact mem_eqAt rx fx t f.2 u' hu
noncomputable def inV (x : V) (xs : List V) : Bool := xs.any fun y => eqV y x
noncomputable def rIn (K : PySem.W.Frag) (neg : Bool) : R2 := fun x y H Q => ∃ p xs, y = .ref p ∧ (SqL K H p xs ∨ SqT K H p xs) ∧ flatV x = true ∧ xs.all flatV = true ∧ Q (.bl (if neg then !inV x xs else inV x xs)) H
theorem op_notIn_seq : OpR X (compareOp .NotIn) (rIn X.K true) := by
 intro pins s σ H x y v u Q I rx ry h
 obtain ⟨p, xs, rfl, hq, fx, fs, q⟩ := h
 cases ry
 rcases hq with hq | hq
 · obtain ⟨its, r, pl, hz⟩ := I.list hq
   refine SeqAt.notIn_listAt (eqU x) pl.isList (fun w hw => mem_eqAt rx fx r fs w (by simpa using hw)) ⟨.bl _, H, I, rfl, ?_⟩
   rw [show its.toArray.any (eqU x) = its.any (eqU x) by simp, any_eqU r fs]
   exact q
 · obtain ⟨its, r, pl, hz⟩ := I.tuple hq
   refine SeqAt.notIn_tupleAt (eqU x) pl (fun w hw => mem_eqAt rx fx r fs w (by simpa using hw)) ⟨.bl _, H, I, rfl, ?_⟩
   rw [show its.toArray.any (eqU x) = its.any (eqU x) by simp, any_eqU r fs]
   exact q
theorem call_len_seq : CallR X (.builtin "len") (fun xs H Q => ∃ p ys, xs = [.ref p] ∧ (SqL X.K H p ys ∨ SqT X.K H p ys) ∧ Q (.int ys.length) H) := by
 intro pins s σ H xs us Q I r h
 obtain ⟨p, ys, rfl, hq, q⟩ := h
 obtain ⟨u, rfl, rx⟩ := vals1 r
 cases rx
 have hn := line63
 rcases hq with hq | hq
 · obtain ⟨its, r', pl, hz⟩ := I.list hq
   have hlen := r'.length
   exact Calls.call_len_list pl.isList (by simp only [List.size_toArray] <;> lia) ⟨.int ys.length, H, I.tok _, ⟨s.toks + 1, by rw [List.size_toArray, hlen]⟩, q⟩
 · obtain ⟨its, r', pl, hz⟩ := I.tuple hq
   have hlen := r'.length
   exact len_tuple pl (by simp only [List.size_toArray] <;> lia) ⟨.int ys.length, H, I.tok _, ⟨s.toks + 1, by rw [List.size_toArray, hlen]⟩, q⟩
theorem call_len_str : CallR X (.builtin "len") (fun xs H Q => ∃ z, xs = [.str z] ∧ z.length ≤ sizeLine ∧ Q (.int z.length) H) := by
 intro pins s σ H xs us Q I r h
 obtain ⟨z, rfl, hz, q⟩ := h
 obtain ⟨u, rfl, t, rfl⟩ := vals1 r
 have hn := line63
 exact len_str (by lia) ⟨.int z.length, H, I.tok _, ⟨_, rfl⟩, q⟩
theorem call_tuple_of : CallR X (.type "tuple") (fun xs H Q => ∃ p ys, xs = [.ref p] ∧ ((SqL X.K H p ys ∧ ∀ l, H l = none → Q (.ref l) (upd H l (.tup ys))) ∨ (SqT X.K H p ys ∧ Q (.ref p) H))) := by
 intro pins s σ H xs us Q I r h
 obtain ⟨p, ys, rfl, h⟩ := h
 obtain ⟨u, rfl, rx⟩ := vals1 r
 cases rx
 rcases h with ⟨hq, q⟩ | ⟨hq, q⟩
 · obtain ⟨its, r', pl, hz⟩ := I.list hq
   have hlen := r'.length
   refine call_tuple_list pl.isList (fun h' kp => ?_) (by simp only [List.size_toArray] <;> lia)
   have I1 : Inv X pins σ H { s with heap := h' } := I.kept (t' := s.toks) kp
   have I2 : Inv X pins σ (upd H h'.objs.size (.tup ys)) { s with heap := h'.push { cls := .type "tuple", data := .seq its.toArray } } :=
     I1.laid (t' := s.toks) (fun b o e => Heap.get?_push_of_some _ e) (Nat.le_refl _) (show ObjOk X.prog X.w _ _ _ (.tup ys) from ⟨hz, its, r', IsTup0.new _ _⟩)
   exact ⟨.ref h'.objs.size, _, I2, rfl, q _ (I1.hok.fresh (Nat.le_refl _))⟩
 · obtain ⟨its, r', pl, hz⟩ := I.tuple hq
   exact call_tuple_same pl ⟨.ref p, H, I, rfl, q⟩
noncomputable def tyV (K : PySem.W.Frag) (T : String) (x : V) (H : Hp) : Prop := match x with
 | .str _ => T = "str"
 | .int _ => T = "int"
 | .ref p => (T = "list" ∧ ∃ xs, SqL K H p xs) ∨ (T = "tuple" ∧ ∃ o, K.lookup p = some o ∧ o.cls = .type "tuple" ∧ o.dict = none) ∨
     (T = "dict" ∧ ((∃ kvs, H p = some (.dK kvs)) ∨ ∃ kvs, H p = some (.dT kvs))) ∨ (T = "set" ∧ ∃ S n, H p = some (.set S n))
 | _ => False
theorem tyV_is {pins : List (Addr × Obj)} {σ : St} {H : Hp} {s : Shared} {T : String} {x : V} {v : Value} (I : Inv X pins σ H s) (r : RelV x v) (ty : tyV X.K T x H) :
   s.TypeIs v T ∧ ∀ a, v = .ref a → ∃ ob, s.heap.get? a = some ob ∧ ob.dict = none := by
 cases x with
 | str z =>
   obtain ⟨t, rfl⟩ := r
   cases (show T = "str" from ty)
   exact ⟨typeIs_str s z t, fun _ e => nomatch e⟩
 | int i =>
   obtain ⟨t, rfl⟩ := r
   cases (show T = "int" from ty)
   exact ⟨typeIs_int s i t, fun _ e => nomatch e⟩
 | ref p =>
   cases r
   rcases ty with ⟨rfl, xs, hq⟩ | ⟨rfl, o, hk, hc, hd⟩ | ⟨rfl, hk⟩ | ⟨rfl, S, n, hk⟩
   · obtain ⟨its, _, pl, _⟩ := I.list hq
     refine ⟨pl.isList.typeIs, fun a e => ?_⟩
     cases e
     obtain ⟨o, n, e, c, hd, _⟩ := pl
     exact ⟨o, e, hd⟩
   · refine ⟨⟨o, I.kIn p o hk, hc⟩, fun a e => ?_⟩
     cases e
     exact ⟨o, I.kIn _ o hk, hd⟩
   · have z : ∃ o, s.heap.get? p = some o ∧ o.ExactDict := by
       rcases hk with ⟨kvs, hk⟩ | ⟨kvs, hk⟩
       · obtain ⟨_, _, _, _, o, _, _, e, ex, _⟩ := I.hok p _ hk
         exact ⟨o, e, ex⟩
       · obtain ⟨_, _, _, _, o, _, _, e, ex, _⟩ := I.hok p _ hk
         exact ⟨o, e, ex⟩
     obtain ⟨o, e, ex⟩ := z
     refine ⟨⟨o, e, ex.1⟩, fun a e2 => ?_⟩
     cases e2
     exact ⟨o, e, ex.2.1⟩
   · obtain ⟨o, _, _, _, e, ex, _⟩ := I.hok p _ hk
     refine ⟨⟨o, e, ex.1⟩, fun a e2 => ?_⟩
     cases e2
     exact ⟨o, e, ex.2.1⟩
 | _ => exact False.elim ty
noncomputable def tBM (K : PySem.W.Frag) (T : String) (r : V → List V → Hp → VK → Prop) (to : TE) (t : TA) : TE := fun σ H Q => to σ H fun x H1 => tyV K T x H1 ∧ t σ H1 fun xs H2 => r x xs H2 Q
variable {o e : Expr} {es : List Expr} {to : TE} {t : TA} {name : Str} {apos cpos : Pos} {T id : String} {r : V → List V → Hp → VK → Prop}
theorem pe_bm (pa : PlainAttrs T) (slot : Slot T name id) (hty : typeOf (.builtin id) = pure (.type "method_descriptor")) (hm : MtR X id r) (ho : PE X o to) (ha : PA X (e :: es) t)
   (hbase : attributeBase o name X.env (eval o X.env) = eval o X.env := by rfl)
   (hfew : ((backTo cpos (starEach (e :: es) X.env)).all (fun x => !x.1) && (backToKw cpos (keywordEach [] X.env)).all (fun x => x.1.isSome)
     && decide ((e :: es).length + ([] : List Keyword).length + (if ([] : List Keyword).isEmpty then 0 else 1) < 30)) = true := by rfl)
   (hline : (apos.endLine == cpos.line) = true := by rfl) (hs : starEach (e :: es) X.env = (false, eval e X.env) :: starEach es X.env := by rfl) (hplain : (backTo cpos (starEach es X.env)).any (·.1) = false := by rfl) :
   PE X (.Call (.Attribute o name apos) (e :: es) [] cpos) (tBM X.K T r to t) := by
 intro pins s σ H Q I h
 refine wpAny_Call_method_late hbase hfew hline rfl (thn (ho pins s σ H _ I h) fun v s1 ⟨x, H1, I1, r1, ty, q1⟩ => ?_)
 obtain ⟨h1, h2⟩ := tyV_is I1 r1 ty
 refine ⟨T, id, pa, slot, hty, h1, h2, ?_⟩
 have hA := ha cpos pins s1 σ H1 _ I1 q1
 rw [hs] at hA ⊢
 refine Calls.callWith_builtin (by show (false || (backTo cpos (starEach es X.env)).any (·.1)) = false; rw [hplain] <;> rfl) (Calls.evalArgs_plain ?_)
 exact thn hA fun us s2 ⟨vs, H2, I2, r2, q2⟩ => hm pins s2 σ H2 x vs v us Q I2 r1 r2 q2
end
end L2
namespace L2
open PySem PySem.Spec PyProof.Rows
noncomputable def MtM (X : Cx) (id : String) (r : V → List V → Hp → VK → Prop) : Prop :=
 ∀ (pins : List (Addr × Obj)) (s : Shared) (σ : St) (H : Hp) (x : V) (xs : List V) (v : Value) (us : List Value) (Q : VK), Inv X pins σ H s → RelV x v → Vals xs us → r x xs H Q →
   wpAny (model X.prog X.w) X.A (call (.builtin id) (v :: us)) (EP X pins σ Q) X.xe s
theorem Vals.one : ∀ {x : V} {us : List Value}, Vals [x] us → ∃ u, us = [u] ∧ RelV x u
 | _, _, .cons r .nil => ⟨_, rfl, r⟩
theorem Vals.rep {xs : List V} {us : List Value} (h : Vals xs us) : ∀ k : Nat, Vals (List.replicate k xs).flatten (List.replicate k us).flatten
 | 0 => .nil
 | k + 1 => by
   rw [List.replicate_succ, List.replicate_succ, List.flatten_cons, List.flatten_cons]
   exact Vals.append h (Vals.rep h k)
theorem foldl_rep (its : List Value) : ∀ (k : Nat) (acc : List Value),
   List.foldl (fun x1 x2 => x1 ++ x2) acc.toArray (List.replicate k its.toArray) = (acc ++ (List.replicate k its).flatten).toArray
 | 0, acc => by simp
 | k + 1, acc => by
   have e : acc.toArray ++ its.toArray = (acc ++ its).toArray := by simp
   have e2 : (acc ++ its) ++ (List.replicate k its).flatten = acc ++ (List.replicate (k + 1) its).flatten := by
     rw [List.replicate_succ, List.flatten_cons, List.append_assoc]
   rw [← e2, ← foldl_rep its k (acc ++ its), ← e, List.replicate_succ, List.foldl_cons]
section
variable {X : Cx} {pins : List (Addr × Obj)} {σ : St} {H : Hp} {s : Shared} {l b : Addr} {xs ys zs : List V}
theorem Inv.lset {its its' : List Value} {n : Nat} {f : Array Value → Array Value} {t' : Nat} (I : Inv X pins σ H s) (hH : H l = some (.lst xs))
   (e : s.heap.get? l = some { cls := .type "list", data := .seq its.toArray n }) (hf : f its.toArray = its'.toArray) (hv : Vals ys its') (hz : ys.length ≤ sizeLine) :
   Inv X pins σ (upd H l (.lst ys)) { s with heap := s.heap.update l (Obj.mapSeq f), toks := t' } := by
 have q := PySem.IsL.update e f
 rw [hf] at q
 refine I.write (x := l) (e := l) (by rw [hH]; exact trivial) (.inl rfl) (fun b' u hb hu => (Heap.get?_update_other s.heap (Obj.mapSeq f) (Ne.symm hb)).trans hu) ⟨_, q⟩ ?_
 exact ⟨hz, its', _, hv, q⟩
theorem Inv.lnew {its : List Value} {t' : Nat} (I : Inv X pins σ H s) (hv : Vals ys its) (hz : ys.length ≤ sizeLine) :
   Inv X pins σ (upd H s.heap.objs.size (.lst ys)) { s with heap := s.heap.push { cls := .type "list", data := .seq its.toArray }, toks := t' } :=
 I.laid (fun _ _ q => Heap.get?_push_of_some _ q) (Nat.le_refl _) ⟨hz, its, 0, hv, Heap.get?_push_size _ rfl⟩
theorem Inv.fresh (I : Inv X pins σ H s) : H s.heap.objs.size = none := I.hok.fresh (Nat.le_refl _)
theorem Inv.lstM (I : Inv X pins σ H s) (hH : H l = some (.lst xs)) : xs.length ≤ sizeLine ∧ ∃ (its : List Value) (n : Nat), Vals xs its ∧ xs.length = its.length ∧ s.heap.get? l = some { cls := .type "list", data := .seq its.toArray n } := by
 obtain ⟨z, its, n, r, e⟩ := I.hok l _ hH
 exact ⟨z, its, n, r, r.length, e⟩
theorem notLongL {n : Nat} (h : n ≤ sizeLine) : Builtin.List.listTooLong n = false := by
 unfold Builtin.List.listTooLong
 exact decide_eq_false (by lia)
end
section
variable {X : Cx}
noncomputable def rAppend : V → List V → Hp → VK → Prop := fun x vs H Q => ∃ l xs y, x = .ref l ∧ vs = [y] ∧ H l = some (.lst xs) ∧ xs.length < sizeLine ∧ Q .non (upd H l (.lst (xs ++ [y])))
theorem mt_append : MtM X "list.append" rAppend := by
 intro pins s σ H x vs v us Q I rx rv h
 obtain ⟨l, xs, y, rfl, rfl, hH, hz, q⟩ := h
 cases rx
 obtain ⟨u, rfl, ru⟩ := rv.one
 obtain ⟨z, its, n, r, hl, e⟩ := I.lstM hH
 refine call_meets F.slot_list_append ⟨_, e, rfl⟩ F.entry_list_append (F.args_list_append_2 _ _) (PySem.list_append l its.toArray n u (by rw [List.size_toArray]; lia)) ⟨e, ?_⟩
 refine ⟨.non, _, I.lset (its' := its ++ [u]) hH e (by simp) (r.append (.cons ru .nil)) ?_, rfl, q⟩
 rw [List.length_append, List.length_singleton]
 lia
noncomputable def rCat : R2 := fun x y H Q => ∃ l b xs zs, x = .ref l ∧ y = .ref b ∧ H l = some (.lst xs) ∧ H b = some (.lst zs) ∧ xs.length + zs.length ≤ sizeLine ∧ ∀ p, H p = none → Q (.ref p) (upd H p (.lst (xs ++ zs)))
theorem op_cat : OpR X (binaryOp .Add) rCat := by
 intro pins s σ H x y v u Q I rx ry h
 obtain ⟨l, b, xs, zs, rfl, rfl, hH, hB, hz, q⟩ := h
 cases rx
 cases ry
 obtain ⟨z, its, n, r, hl, e⟩ := I.lstM hH
 obtain ⟨z2, its2, n2, r2, hl2, e2⟩ := I.lstM hB
 refine PySem.P.add_list e e2 ?_ (by rw [List.size_toArray, List.size_toArray]; lia)
 have ea : its.toArray ++ its2.toArray = (its ++ its2).toArray := by simp
 rw [ea]
 exact ⟨.ref _, _, I.lnew (t' := s.toks) (r.append r2) (by rw [List.length_append]; lia), rfl, q _ I.fresh⟩
noncomputable def rRep : R2 := fun x y H Q => ∃ l k xs, x = .ref l ∧ y = .int k ∧ H l = some (.lst xs) ∧ -(2 ^ 63) ≤ k ∧ k < 2 ^ 63 ∧ xs.length * k.toNat ≤ sizeLine ∧
 ∀ p, H p = none → Q (.ref p) (upd H p (.lst (List.replicate k.toNat xs).flatten))
theorem len_rep {α : Type} (xs : List α) (k : Nat) : (List.replicate k xs).flatten.length = k * xs.length := by
 induction k with
 | zero => simp
 | succ k ih => rw [List.replicate_succ, List.flatten_cons, List.length_append, ih, Nat.succ_mul, Nat.add_comm]
theorem op_rep : OpR X (binaryOp .Mult) rRep := by
 intro pins s σ H x y v u Q I rx ry h
 obtain ⟨l, k, xs, rfl, rfl, hH, h1, h2, hz, q⟩ := h
 cases rx
 obtain ⟨t, rfl⟩ := ry
 obtain ⟨z, its, n, r, hl, e⟩ := I.lstM hH
 have hlen : its.toArray.size * k.toNat ≤ sizeLine := by rw [List.size_toArray, ← hl]; exact hz
 have hcap : ¬ its.toArray.size * k.toNat > (2 ^ 63 - 1) / 8 := by
   have : (sizeLine : Nat) ≤ (2 ^ 63 - 1) / 8 := by decide
   lia
 have hfit : ¬ (!Builtin.List.listFitsIndex k) = true := by
   rw [fitsIndex_both h1 h2]
   exact Bool.false_ne_true
 have hlong : ¬ Builtin.List.listTooLong (its.toArray.size * k.toNat) = true := by
   rw [notLongL hlen]
   exact Bool.false_ne_true
 have hnew : List.foldl (fun x1 x2 => x1 ++ x2) #[] (List.replicate (if its.toArray.isEmpty = true then 0 else k.toNat) its.toArray) = (List.replicate k.toNat its).flatten.toArray := by
   have f0 : ∀ m : Nat, List.foldl (fun x1 x2 => x1 ++ x2) #[] (List.replicate m its.toArray) = (List.replicate m its).flatten.toArray := fun m => by
     have := foldl_rep its m []
     rw [List.nil_append] at this
     exact this
   rw [f0]
   cases its with
   | nil => simp
   | cons a r' => rw [if_neg (by simp)]
 refine wpAny_binaryOp_repeat_ref (T := "list") (U := "int") (by decide) ⟨_, e, rfl⟩ (fun s' => typeIs_int s' k t) noFill_list_mul F.fills_int_mul F.slot_int_rmul repeat_list F.slot_int_index.lookup
   (call_meets F.slot_int_rmul (typeIs_int s k t) F.entry_int_rmul (F.args_int_rmul_2 _ _) (int___rmul___int_list k t l its.toArray n)
     ⟨e, rfl, ⟨_, e, rfl⟩, call_meets F.slot_list_mul ⟨_, e, rfl⟩ F.entry_list_mul (F.args_list_mul_2 _ _) (AutoListH.list___mul___list_int_3 l its.toArray n k t hfit hcap hlong) ⟨e, ?_⟩⟩)
 rw [hnew]
 exact ⟨.ref _, _, I.lnew (t' := s.toks) (r.rep k.toNat) (by rw [len_rep, Nat.mul_comm]; exact hz), rfl, q _ I.fresh⟩
end
section
variable {prog : Program} {w : World} {A : Around} {E : Value → Shared → Prop} {s : Shared}
end
section
variable {X : Cx}
end
end L2
namespace Att
open PySem PySem.W PySem.Calls PyProof.Rows
theorem ints_of_wellAll {P : Params} {h : Heap} : ∀ (ns : List Int) (vs : List Value), WellAll P h vs (ns.map WData.int) → IntsAre vs ns := by
 intro ns
 induction ns with
 | nil =>
   intro vs w
   rw [List.map_nil] at w
   cases w
   exact .nil
 | cons n ns ih =>
   intro vs w
   rw [List.map_cons] at w
   cases w with
   | cons a b =>
     cases a
     exact .cons _ _ (ih _ b)
theorem script_of {l : OpenLaw} {n : Nat} (hn : l.most = some n) {P : Params} {h : Heap} {args : List WData} {vals : List Value}
   (hpre : l.row.toRowW.claim.pre args = true) (hwl : WellAll P h vals args) :
   ∃ a vs ns, vals = [Value.ref a] ∧ args = [WData.list (ns.map WData.int)] ∧ h.get? a = some { cls := .type "list", data := .seq vs.toArray } ∧ IntsAre vs ns ∧ ns.length ≤ n := by
 have hsh : WShape.hasAll [] args [.list .int] = true := (pre_splitW hpre).1
 have hc : l.pre.holds [] { args := args } = true := (pre_splitW hpre).2
 obtain ⟨d, r, rfl, h1, h2⟩ := hasAllW_cons hsh
 obtain rfl := hasAllW_nil h2
 obtain ⟨xs, rfl, h3⟩ := hasW_list h1
 obtain ⟨ns, rfl⟩ := items_int h3
 have hlen : ns.length ≤ n := by
   unfold OpenLaw.pre at hc
   have h4 : (WTm.not (.lt (.lit (.int (n : Int))) (.len (.arg 0)))).holds [] { args := [.list (ns.map .int)] } = true := by
     have h4 := (holds_andW hc).1
     rw [hn] at h4
     exact h4
   have h5 := condW_of h4 (w_not (w_lt w_lit (w_len_list (w_arg rfl))))
   rw [List.length_map] at h5
   refine Nat.le_of_not_lt fun q => ?_
   have q' : (n : Int) < ((ns.length : Nat) : Int) := by lia
   first
     | (rw [decide_eq_true q'] at h5; exact absurd h5 (by decide))
     | (simp at h5; lia)
 cases hwl with
 | cons w1 w2 =>
   cases w2
   cases w1 with
   | list ho hall => exact ⟨_, _, ns, rfl, rfl, ho, ints_of_wellAll ns _ hall, hlen⟩
theorem post_true (l : OpenLaw) (args : List WData) : l.row.toRowW.claim.post args (.bool true) args = true :=
 postW_of (r := l.row.toRowW) (X := (true == true))
   (show WShape.has [] (.bool true) .bool = true by first | rfl | decide | simp [WShape.has, WShape.arms, WShape.armsAll])
   (show (WTm.eq .res (.lit (.bool true))).value [] { args := args, res := some (.bool true), after := args } = some (.bool (true == true)) from w_eq_bool (w_res rfl) w_lit) rfl
theorem attach_call {l : OpenLaw} {n : Nat} {q : Program} {loose : List Str} {XP : (Str → Option Value) → Heap → Prop} {YP : World → Heap → Prop} {d : DefRec}
   (hn : l.most = some n) (hdf : d.params.defaults = [])
   (call : ∀ (w : World) (s₀ s₁ : Shared) (mg mb : Str → Option Value) (fa : Addr) (o : Obj) (pm cd doc : Value) (a : Addr) (vs : List Value) (ns : List Int),
     Ground q loose [] XP w s₀ mg mb s₁.heap → YP w s₁.heap →
     s₁.heap.get? fa = some o → o.data = .func (docDef d.name d.params d.body d.scope pm cd doc) → s₁.heap.CodeRec cd d.name → mg d.name = some (.ref fa) →
     s₁.heap.get? a = some { cls := .type "list", data := .seq vs.toArray } → IntsAre vs ns → ns.length ≤ n → s₁.gens = #[] →
     codeAny (model l.prog w) callerA (.call (.ref fa) ⟨[.ref a], []⟩) (fun r s' => r = .ok (.ret (.bool true)) ∧ OldK s₁.heap s'.heap ∧ s'.os = s₁.os ∧ AllBare s'.gens) s₁) :
   WalkO q loose XP YP l.row.toRowW d [] (fun f vs => PySem.call f vs) := by
 intro w s₀ s₁ mg mb G Y fa o pm cd doc dV kV ho hd hcd hD hmg hg args vals as hpre hlay hrd hwl hlo
 obtain rfl : dV = .none := Dflts.none hD hdf
 obtain rfl : kV = .none := Dflts.noKw hD
 obtain ⟨a, vs, ns, rfl, rfl, hobj, hints, hlen⟩ := script_of hn hpre hwl
 refine enter_call (codeAny_mono (call w s₀ s₁ mg mb fa o pm cd doc a vs ns G Y ho (fd_plain hd) hcd hmg hobj hints hlen hg) fun r s' hq => ?_)
 obtain ⟨rfl, h2, h3, h4⟩ := hq
 exact ⟨.inl ⟨.bool true, .bool true, [], rfl, fun _ => rfl, .bool true, post_true l _, fun _ => ⟨List.Pairwise.nil, fun _ hm => (nomatch hm)⟩⟩, h2, h3, h4⟩
section
variable {prog : Program} {w : World} {A : Around} {E : Value → Shared → Prop} {s : Shared} {K : Frag}
end
end Att
namespace L2
open PySem PySem.Spec PyProof.Rows
theorem vals_ints : ∀ {vs : List Value} {ns : List Int}, IntsAre vs ns → Vals (ns.map V.int) vs
 | _, _, .nil => .nil
 | _, _, .cons n t h => .cons ⟨t, rfl⟩ (vals_ints h)
noncomputable def Only (H : Hp) : Prop := ∀ b, H b = none ∨ ∃ o xs, H b = some (.frz o (.lst xs))
theorem law_call {P : Program} {w : World} {K : PySem.W.Frag} {mg mb : Str → Option Value} {CX : CXT} {k : Nat} {fa a : Addr} {fd : FuncData} {x : Str} {sp : Sp} {s₁ : Shared} {vs : List Value} {ns : List Int}
   (KX : K.In s₁.heap) (hns : s₁.heap.Ns mainGlobals mg) (hb : s₁.heap.Ns builtinsNs mb) (hbb : ∀ x : Str, x ≠ "__name__" → mb x = bootBuiltins x) (hlim : s₁.heap.NoLimit) (hg : s₁.gens = #[])
   (ha : s₁.heap.get? a = some { cls := .type "list", data := .seq vs.toArray }) (hi : IntsAre vs ns) (hl : ns.length ≤ sizeLine) (hr : Room k callerA)
   (F : ∀ base : Heap, K.In base → base.Ns mainGlobals mg → FnOk P w K mg base CX k fa fd [x] sp) (hbind : ∀ (s : Shared) (u : Value), BindsTo s fd ⟨[u], []⟩ [(x, u)])
   (hsp : ∀ H : Hp, Only H → SqL K H a (ns.map V.int) → sp [.ref a] H (fun v _ => v = .bl true) fun _ _ _ => False)
   (hCX : ∀ H e s', CX [] H s₁ (fun _ _ _ => False) e s' → False) :
   codeAny (model P w) callerA (.call (.ref fa) ⟨[.ref a], []⟩) (fun r s' => r = .ok (.ret (.bool true)) ∧ OldK s₁.heap s'.heap ∧ s'.os = s₁.os ∧ AllBare s'.gens) s₁ := by
 have rv := vals_ints hi
 have lenV := hi.length
 -- from an abstract heap in which nothing but the script may be tracked
 have core : ∀ H : Hp, Only H → SqL K H a (ns.map V.int) → HOk P w H s₁.heap → (∀ b, H b ≠ none → b = a) → (H a ≠ none → K.lookup a = none) →
     codeAny (model P w) callerA (.call (.ref fa) ⟨[.ref a], []⟩) (fun r s' => r = .ok (.ret (.bool true)) ∧ OldK s₁.heap s'.heap ∧ s'.os = s₁.os ∧ AllBare s'.gens) s₁ := by
   intro H hO hS hok hA hK
   have base_of : ∀ {b : Addr} {o : Obj}, s₁.heap.get? b = some o → H b = none → (hidT s₁.heap H).get? b = some o := fun e n => hidT_get e n
   have noA : ∀ {b : Addr} {o : Obj} {es : Array DictEntry} {ep : Nat}, s₁.heap.get? b = some o → o.data = .dict es ep → H b = none := fun {b o es ep} e d => by
     cases q : H b with
     | none => rfl
     | some u =>
       have e' : b = a := hA b (by rw [q]; simp)
       subst e'
       rw [ha] at e; cases e
       have d' : Data.seq vs.toArray _ = Data.dict es ep := d
       cases d'
   have nsK : ∀ {b : Addr} {m : Str → Option Value}, s₁.heap.Ns b m → (hidT s₁.heap H).Ns b m := fun {b m} ⟨o, es, ep, e, d, r⟩ => ⟨o, es, ep, base_of e (noA e d), d, r⟩
   have hKb : K.In (hidT s₁.heap H) := fun b o e => base_of (KX b o e) (by
     cases q : H b with
     | none => rfl
     | some u =>
       have e' : b = a := hA b (by rw [q]; simp)
       subst e'
       rw [hK (by rw [q]; simp)] at e; cases e)
   have hM : Mod K mg (hidT s₁.heap H) := ⟨hKb, nsK hns, ⟨mb, nsK hb, hbb⟩, let ⟨mc, h1, h2⟩ := hlim; ⟨mc, nsK h1, h2⟩⟩
   have e0 : Env0 P w K mg (hidT s₁.heap H) callerA [] s₁ H := ⟨rfl, hM, fun b o e => of_hidT e, Nat.le_of_eq (hidT_size _ _), trivial, fun b hb => absurd (show b ∈ ([] : List Addr) from hb) (by simp), hok, .of_eq hg⟩
   refine codeAny_mono ((F _ hKb (nsK hns)).run callerA [] s₁ H ⟨[.ref a], []⟩ [.ref a] [.ref a] _ _ hr e0 (hbind s₁ (.ref a)) (.cons rfl .nil) (hsp H hO hS)) fun r s' h => ?_
   cases r with
   | error e => exact (hCX H e s' h).elim
   | ok fl =>
     cases fl with
     | next => exact False.elim h
     | brk => exact False.elim h
     | cont => exact False.elim h
     | ret u =>
       obtain ⟨v, H', os, bare, un, hok', r', q⟩ := h
       have q' : v = .bl true := q
       subst q'
       obtain rfl : u = Value.bool true := r'
       refine ⟨rfl, OldK.of_keep fun b o e => ?_, os, bare⟩
       cases q : H b with
       | none => exact un.keep b o e q (by intro z; exact absurd (show b ∈ ([] : List Addr) from z) (by simp)) (by simp)
       | some u =>
         rcases hO b with z | ⟨ob, xs, z⟩
         · rw [q] at z; cases z
         · have z2 := un.frzs b ob _ z
           obtain ⟨e1, _⟩ := hok b _ z
           obtain ⟨e2, _⟩ := hok' b _ z2
           rw [e] at e1; cases e1
           exact e2
 cases hk : K.lookup a with
 | some o =>
   -- the script is one of the module's own objects
   have e := KX a o hk
   rw [ha] at e
   cases e
   refine core (fun _ => none) (fun _ => .inl rfl) (.inr ⟨_, vs.toArray, _, hk, rfl, rfl, rfl, by rw [List.size_toArray, lenV]; exact hl, by simpa using rv⟩) (fun b u z => by have z' : (none : Option HO) = some u := z; cases z') (fun b z => absurd rfl z) fun z => absurd rfl z
 | none =>
   refine core (fun b => if b = a then some (.frz { cls := .type "list", data := .seq vs.toArray } (.lst (ns.map V.int))) else none) (fun b => ?_) (.inl (.inr ⟨{ cls := .type "list", data := .seq vs.toArray }, if_pos rfl⟩)) (fun b u z => ?_) (fun b z => ?_) fun _ => hk
   · by_cases hb : b = a
     · exact .inr ⟨_, _, if_pos hb⟩
     · exact .inl (if_neg hb)
   · by_cases hb : b = a
     · have z' := (if_pos hb).symm.trans z
       cases z'
       subst hb
       exact ⟨ha, by rw [List.length_map]; exact hl, vs, _, rv, ha⟩
     · have z' := (if_neg hb).symm.trans z
       cases z'
   · by_cases hb : b = a
     · exact hb
     · exact absurd (if_neg hb) z
end L2
namespace L2
open PySem PySem.Spec PyProof.Rows
theorem walk_of {l : PySem.W.OpenLaw} {n k : Nat} {q : Program} {loose : List Str} {XP : (Str → Option Value) → Heap → Prop} {YP : World → Heap → Prop} {d : DefRec} {K : Params → PySem.W.Frag} {CX : World → CXT} {sp : World → Sp} {x : Str}
   (hn : l.most = some n) (hn2 : n ≤ sizeLine) (hdf : d.params.defaults = []) (hr : Room k callerA)
   (hY : ∀ (w : World) (h : Heap), YP w h → (K w.params).In h)
   (F : ∀ (w : World) (mg : Str → Option Value) (fa : Addr) (h : Heap), (K w.params).In h → h.Ns mainGlobals mg → mg d.name = some (.ref fa) →
     ∃ fd : FuncData, (∀ (s : Shared) (u : Value), BindsTo s fd ⟨[u], []⟩ [(x, u)]) ∧
       ∀ base : Heap, (K w.params).In base → base.Ns mainGlobals mg → FnOk l.prog w (K w.params) mg base (CX w) k fa fd [x] (sp w))
   (hsp : ∀ (w : World) (H : Hp) (a : Addr) (ns : List Int), ns.length ≤ n → Only H → SqL (K w.params) H a (ns.map V.int) → sp w [.ref a] H (fun v _ => v = .bl true) fun _ _ _ => False)
   (hCX : ∀ (w : World) (H : Hp) (s : Shared) (e : Value) (s' : Shared), CX w [] H s (fun _ _ _ => False) e s' → False) :
   PySem.W.WalkO q loose XP YP l.row.toRowW d [] (fun f vs => PySem.call f vs) := by
 refine Att.attach_call hn hdf fun w s₀ s₁ mg mb fa o pm cd doc a vs ns G Y ho hd hcd hmg hobj hints hlen hg => ?_
 have KX := hY w _ Y
 obtain ⟨fd, hb, hF⟩ := F w mg fa _ KX G.T.g hmg
 exact law_call KX G.T.g G.T.b G.T.builtins G.T.nolimit hg hobj hints (Nat.le_trans hlen hn2) hr hF hb (fun H hO hS => hsp w H a ns hlen hO hS) fun H e s' => hCX w H s₁ e s'
end L2
namespace L2
open PySem PySem.Spec PyProof.Rows
noncomputable def defArgs (s : Stmt) : Arguments := match s with
 | .FunctionDef _ a _ _ _ _ _ _ _ _ => a
 | _ => { posonlyargs := [], args := [], vararg := none, kwonlyargs := [], kw_defaults := [], kwarg := none, defaults := [] }
noncomputable def defBody (s : Stmt) : List Stmt := match s with
 | .FunctionDef _ _ b _ _ _ _ _ _ _ => b
 | _ => []
noncomputable def defScope (s : Stmt) : Scope := match s with
 | .FunctionDef _ _ _ _ _ _ sc _ _ _ => sc
 | _ => { kind := .function, names := [], isGenerator := false, isCoroutine := false }
noncomputable abbrev CX0 : CXT := fun _ _ _ _ _ _ => False
noncomputable abbrev E0 : XK := fun _ _ _ => False
theorem pass0 {X : Cx} : Passes CX0 X E0 := fun _ _ _ _ _ _ _ h => h.elim
structure Fun (K : PySem.W.Frag) (x qual : Str) (st : Stmt) (f : Addr) (fd : FuncData) : Prop where
 ex : ∃ (oc : Value) (od : Option Addr) (kV doc pm : Value) (an : Option Addr) (cdv ct : Value) (osl : Array (Option Value)),
   fd = PySem.W.fnOf x qual (defArgs st) (defBody st) (defScope st) .none kV doc pm an cdv ct ∧ K.lookup f = some ⟨oc, od, .func fd, osl⟩ ∧ PySem.W.codeIn K cdv qual = true
 kp : PySem.W.keepIn K (.ref f) = true
section
variable {P : Program} {w : World} {K : PySem.W.Frag} {mg : Str → Option Value} {base : Heap}
theorem Fun.ok {x qual : Str} {st : Stmt} {f : Addr} {fd : FuncData} {N ps : List Str} {k : Nat} {sp : Sp} (F : Fun K x qual st f fd) (S : FnScope N ps (defScope st)) (len : ∀ vs H Q E, sp vs H Q E → vs.length = ps.length)
   (hbody : ∀ (cdv : Value) (A : Around) (outer : List Env) (s : Shared) (H : Hp) (vs : List V) (Q : VK) (E : XK), Room k (A.deeper (envOfC qual (defScope st) s.heap.objs.size f cdv)) → sp vs H Q E →
     ∃ t, PSs (cxOf CX0 P w K mg base N qual (defScope st) f cdv A outer s H E).nox (defBody st) t ∧ t { nx := fun _ H' => Q .non H', rt := Q } (start N vs) H) : FnOk P w K mg base CX0 (k + 1) f fd ps sp := by
 obtain ⟨oc, od, kV, doc, pm, an, cdv, ct, osl, rfl, lk, hcd⟩ := F.ex
 refine fn_of lk hcd S len fun A outer s H vs Q E hr hsp => ?_
 obtain ⟨t, h, q⟩ := hbody cdv A outer s H vs Q E hr hsp
 exact ⟨t, h.nox, q⟩
theorem Fun.binds {x qual : Str} {st : Stmt} {f : Addr} {fd : FuncData} {ps : List Str} (F : Fun K x qual st f fd)
   (h : ∀ (kV doc pm : Value) (an : Option Addr) (cdv ct : Value) (us : List Value), us.length = ps.length → bindArgs (PySem.W.fnOf x qual (defArgs st) (defBody st) (defScope st) .none kV doc pm an cdv ct) ⟨us, []⟩ = pure (ps.zip us)) : Binds K fd ps [] := by
 obtain ⟨oc, od, kV, doc, pm, an, cdv, ct, osl, rfl, lk, hcd⟩ := F.ex
 exact .all (h kV doc pm an cdv ct)
theorem fun_mk {x qual : Str} {st : Stmt} {f : Addr} {oc : Value} {od an : Option Addr} {osl : Array (Option Value)} {kV doc pm cdv ct : Value} (l : K.lookup f = some ⟨oc, od, .func (PySem.W.fnOf x qual (defArgs st) (defBody st) (defScope st) .none kV doc pm an cdv ct), osl⟩)
   (c : PySem.W.codeIn K cdv qual = true) (k : PySem.W.keepIn K (.ref f) = true) : Fun K x qual st f (PySem.W.fnOf x qual (defArgs st) (defBody st) (defScope st) .none kV doc pm an cdv ct) := ⟨⟨oc, od, kV, doc, pm, an, cdv, ct, osl, rfl, l, c⟩, k⟩
end
section
variable {X : Cx}
end
theorem ite2 {c A B : Prop} [Decidable c] (h1 : c → A) (h2 : ¬ c → B) : if c then A else B := by
 by_cases h : c
 · rw [if_pos h]
   exact h1 h
 · rw [if_neg h]
   exact h2 h
end L2
set_option maxHeartbeats 4000000
namespace L2
open PySem PySem.Spec PyProof.Rows
section
variable {κ : Type} [DecidableEq κ]
noncomputable def valV (kvs : List (κ × V)) (k : κ) : Option V := (kvs.find? fun kv => decide (kv.1 = k)).map (·.2)
noncomputable def putK (kvs : List (κ × V)) (k : κ) (v : V) : List (κ × V) :=
 if (kvs.any fun kv => decide (kv.1 = k)) = true then kvs.map (fun kv => if kv.1 = k then (kv.1, v) else kv) else kvs ++ [(k, v)]
theorem valV_pos {p : κ × V} {r : List (κ × V)} {k : κ} (e : p.1 = k) : valV (p :: r) k = some p.2 := by simp [valV, List.find?_cons, e]
theorem valV_neg {p : κ × V} {r : List (κ × V)} {k : κ} (e : ¬ p.1 = k) : valV (p :: r) k = valV r k := by simp [valV, List.find?_cons, e]
theorem valV_any (k : κ) : ∀ kvs : List (κ × V), (kvs.any fun kv => decide (kv.1 = k)) = (valV kvs k).isSome
 | [] => rfl
 | p :: r => by
   rw [List.any_cons]
   by_cases e : p.1 = k
   · simp only [valV_pos e, decide_eq_true e, Bool.true_or, Option.isSome_some]
   · rw [valV_neg e, decide_eq_false e, Bool.false_or]; exact valV_any k r
theorem length_putK (kvs : List (κ × V)) (k : κ) (v : V) : (putK kvs k v).length ≤ kvs.length + 1 := by
 unfold putK
 split
 · rw [List.length_map]; lia
 · rw [List.length_append, List.length_cons, List.length_nil]; lia
theorem RelO.isSome_eq {o : Option V} {u : Option Value} (r : RelO o u) : o.isSome = u.isSome := by
 cases o with
 | none => cases u with
   | none => rfl
   | some _ => exact (show False from r).elim
 | some _ => cases u with
   | none => exact (show False from r).elim
   | some _ => rfl
theorem RelO.getD {o : Option V} {u : Option Value} {d : V} {d' : Value} (r : RelO o u) (rd : RelV d d') : RelV (o.getD d) (u.getD d') := by
 cases o with
 | none => cases u with
   | none => exact rd
   | some _ => exact (show False from r).elim
 | some _ => cases u with
   | none => exact (show False from r).elim
   | some _ => exact r
theorem KV.val {kvs : List (κ × V)} {vs : List (κ × Value)} (r : KV kvs vs) (k : κ) : RelO (valV kvs k) (valueAt vs k) := by
 unfold KV at r
 induction r with
 | nil => exact True.intro
 | @cons p q ps qs h t ih =>
   obtain ⟨h1, h2⟩ := h
   by_cases e : p.1 = k
   · have e' : q.1 = k := h1.symm.trans e
     have b : valueAt (q :: qs) k = some q.2 := by simp [valueAt, List.find?_cons, e']
     rw [valV_pos e, b]; exact h2
   · have e' : ¬ q.1 = k := fun z => e (h1.trans z)
     have b : valueAt (q :: qs) k = valueAt qs k := by simp [valueAt, List.find?_cons, e']
     rw [valV_neg e, b]; exact ih
theorem KV.any {kvs : List (κ × V)} {vs : List (κ × Value)} (r : KV kvs vs) (k : κ) : (kvs.any fun kv => decide (kv.1 = k)) = vs.any fun kv => decide (kv.1 = k) := by
 unfold KV at r
 induction r with
 | nil => rfl
 | cons h t ih => rw [List.any_cons, List.any_cons, ih, h.1]
theorem KV.repl {kvs : List (κ × V)} {vs : List (κ × Value)} (r : KV kvs vs) (k : κ) {y : V} {u : Value} (ry : RelV y u) :
   KV (kvs.map fun kv => if kv.1 = k then (kv.1, y) else kv) (vs.map fun kv => if kv.1 = k then (kv.1, u) else kv) := by
 unfold KV at r ⊢
 induction r with
 | nil => exact .nil
 | @cons p q ps qs h t ih =>
   rw [List.map_cons, List.map_cons]
   refine .cons ?_ ih
   obtain ⟨h1, h2⟩ := h
   by_cases e : p.1 = k
   · rw [if_pos e, if_pos (h1.symm.trans e)]; exact ⟨h1, ry⟩
   · rw [if_neg e, if_neg (fun z => e (h1.trans z))]; exact ⟨h1, h2⟩
theorem KV.put {kvs : List (κ × V)} {vs : List (κ × Value)} (r : KV kvs vs) (k : κ) {y : V} {u : Value} (ry : RelV y u) : KV (putK kvs k y) (stored vs k u) := by
 unfold putK stored
 rw [r.any k]
 by_cases e : (vs.any fun kv => decide (kv.1 = k)) = true
 · rw [if_pos e, if_pos e]; exact r.repl k ry
 · rw [if_neg e, if_neg e]; exact Paired.snoc r ⟨rfl, ry⟩
theorem KV.length {kvs : List (κ × V)} {vs : List (κ × Value)} (r : KV kvs vs) : kvs.length = vs.length := Paired.length r
end
theorem kV_is {P : Program} {w : World} {k : Key} {u : Value} (r : RelV (kV k) u) : (mixKind P w).is k u = true := by
 cases k with
 | inl i => obtain ⟨t, e⟩ := (show ∃ t, u = Value.int i t from r); subst e; exact mixKind_int P w i t
 | inr x => obtain ⟨t, e⟩ := (show ∃ t, u = Value.str x t from r); subst e; exact mixKind_str P w x t
theorem items_are {P : Program} {w : World} : ∀ {ks : List Key} {us : List Value}, Vals (ks.map kV) us → ItemsAre (mixKind P w) ks us
 | [], _, r => by rw [List.map_nil] at r; cases r; exact .nil
 | k :: ks, _, r => by
   rw [List.map_cons] at r
   cases r with
   | cons h t => exact .cons (kV_is h) (items_are t)
noncomputable abbrev KT (H : Hp) : List (List Key × V) → List (List Key × Addr × Value) → Prop := Paired fun p q => p.1 = q.1 ∧ H q.2.1 = some (.tup (p.1.map kV)) ∧ RelV p.2 q.2.2
theorem KT.val {H : Hp} {kvs : List (List Key × V)} {xs : List (List Key × Addr × Value)} (r : KT H kvs xs) (k : List Key) : RelO (valV kvs k) ((atKey xs k).map (·.2)) := by
 induction r with
 | nil => exact True.intro
 | @cons p q ps qs h t ih =>
   obtain ⟨h1, _, h2⟩ := h
   by_cases e : p.1 = k
   · have e' : q.1 = k := h1.symm.trans e
     have b : atKey (q :: qs) k = some q.2 := by simp [atKey, List.find?_cons, e']
     rw [valV_pos e, b]; exact h2
   · have e' : ¬ q.1 = k := fun z => e (h1.trans z)
     have b : atKey (q :: qs) k = atKey qs k := by simp [atKey, List.find?_cons, e']
     rw [valV_neg e, b]; exact ih
theorem KT.repl {H : Hp} {kvs : List (List Key × V)} {xs : List (List Key × Addr × Value)} (r : KT H kvs xs) (k : List Key) {y : V} {u : Value} (ry : RelV y u) :
   KT H (kvs.map fun kv => if kv.1 = k then (kv.1, y) else kv) (xs.map (putAt k u)) := by
 induction r with
 | nil => exact .nil
 | @cons p q ps qs h t ih =>
   rw [List.map_cons, List.map_cons]
   refine .cons ?_ ih
   obtain ⟨h1, h2, h3⟩ := h
   unfold putAt
   by_cases e : p.1 = k
   · rw [if_pos e, if_pos (h1.symm.trans e)]; exact ⟨h1, h2, ry⟩
   · rw [if_neg e, if_neg (fun z => e (h1.trans z))]; exact ⟨h1, h2, h3⟩
theorem KT.put {H : Hp} {kvs : List (List Key × V)} {xs : List (List Key × Addr × Value)} (r : KT H kvs xs) (k : List Key) {b : Addr} {y : V} {u : Value} (hb : H b = some (.tup (k.map kV))) (ry : RelV y u) :
   KT H (putK kvs k y) (storedH xs k b u) := by
 have e : (kvs.any fun kv => decide (kv.1 = k)) = (atKey xs k).isSome := by
   rw [valV_any, (r.val k).isSome_eq, Option.isSome_map]
 unfold putK storedH
 rw [e]
 by_cases q : (atKey xs k).isSome = true
 · rw [if_pos q, if_pos q]; exact r.repl k ry
 · rw [if_neg q, if_neg q]; exact Paired.snoc r ⟨rfl, hb, ry⟩
theorem KT.keeps {H H' : Hp} {kvs : List (List Key × V)} {xs : List (List Key × Addr × Value)} (r : KT H kvs xs) (ht : ∀ b ys, H b = some (.tup ys) → H' b = some (.tup ys)) : KT H' kvs xs :=
 Paired.mapP r fun _ _ z => ⟨z.1, ht _ _ z.2.1, z.2.2⟩
section
variable {P : Program} {w : World} {H : Hp} {h : Heap} {a : Addr}
theorem rd_of {u : HO} (ok : HOk P w H h) (e : Rd H a u) : ObjOk P w H h a u := e.ok ok
theorem dk_rd {kvs : List (Key × V)} (ok : HOk P w H h) (e : Rd H a (.dK kvs)) : kvs.length ≤ sizeLine ∧ (a == sysModules) = false ∧ ∃ vs, KV kvs vs ∧ h.DictOf (mixKind P w) a vs :=
 show ObjOk P w H h a (.dK kvs) from rd_of ok e
theorem dk_of {kvs : List (Key × V)} (ok : HOk P w H h) (e : H a = some (.dK kvs)) : kvs.length ≤ sizeLine ∧ (a == sysModules) = false ∧ ∃ vs, KV kvs vs ∧ h.DictOf (mixKind P w) a vs := dk_rd ok (.inl e)
theorem key_of {ks : List Key} (ok : HOk P w H h) (e : H a = some (.tup (ks.map kV))) : (tupleKind (mixKind P w)).is h ks a := by
 obtain ⟨_, its, r, o, h1, h2, _, n, h3⟩ := (show ObjOk P w H h a (.tup (ks.map kV)) from ok a _ e)
 exact ⟨o, its.toArray, n, h1, h2, h3, by simpa using items_are r⟩
theorem dt_rd {kvs : List (List Key × V)} (ok : HOk P w H h) (e : Rd H a (.dT kvs)) : kvs.length ≤ sizeLine ∧ (a == sysModules) = false ∧
   ∃ xs, KT H kvs xs ∧ h.DictOfH (tupleKind (mixKind P w)) a xs := by
 obtain ⟨z, y, xs, r, o, es, ep, h1, h2, h3, h4, h5⟩ := (show ObjOk P w H h a (.dT kvs) from rd_of ok e)
 refine ⟨z, y, xs, r, o, es, ep, h1, h2, h3, h4, fun x hx => ?_, h5⟩
 have all : ∀ {l : List (List Key × V)} {m : List (List Key × Addr × Value)}, KT H l m → ∀ x ∈ m, (tupleKind (mixKind P w)).is h x.1 x.2.1 := by
   intro l m q
   induction q with
   | nil => intro x hx; exact nomatch hx
   | @cons p q ps qs hq t ih =>
     intro x hx
     rcases List.mem_cons.mp hx with e | hx
     · subst e
       exact key_of ok (by rw [← hq.1]; exact hq.2.1)
     · exact ih x hx
 exact all r x hx
theorem dt_of {kvs : List (List Key × V)} (ok : HOk P w H h) (e : H a = some (.dT kvs)) : kvs.length ≤ sizeLine ∧ (a == sysModules) = false ∧
   ∃ xs, KT H kvs xs ∧ h.DictOfH (tupleKind (mixKind P w)) a xs := dt_rd ok (.inl e)
end
noncomputable def DGet (H : Hp) (a : Addr) (y : V) (r : Option V) : Prop :=
 (∃ kvs k, Rd H a (.dK kvs) ∧ y = kV k ∧ r = valV kvs k) ∨ ∃ kvs k b, Rd H a (.dT kvs) ∧ y = .ref b ∧ H b = some (.tup (k.map kV)) ∧ r = valV kvs k
noncomputable def DPut (H : Hp) (a : Addr) (y v : V) (H' : Hp) : Prop :=
 (∃ kvs k, H a = some (.dK kvs) ∧ y = kV k ∧ kvs.length < sizeLine ∧ H' = upd H a (.dK (putK kvs k v))) ∨
 ∃ kvs k b, H a = some (.dT kvs) ∧ y = .ref b ∧ H b = some (.tup (k.map kV)) ∧ kvs.length < sizeLine ∧ H' = upd H a (.dT (putK kvs k v))
theorem DGet.k {H : Hp} {a : Addr} {kvs : List (Key × V)} {k : Key} (e : H a = some (.dK kvs)) : DGet H a (kV k) (valV kvs k) := .inl ⟨kvs, k, .inl e, rfl, rfl⟩
theorem DGet.t {H : Hp} {a b : Addr} {kvs : List (List Key × V)} {k : List Key} (e : H a = some (.dT kvs)) (eb : H b = some (.tup (k.map kV))) : DGet H a (.ref b) (valV kvs k) := .inr ⟨kvs, k, b, .inl e, rfl, eb, rfl⟩
theorem DPut.k {H : Hp} {a : Addr} {kvs : List (Key × V)} {k : Key} {v : V} (e : H a = some (.dK kvs)) (hl : kvs.length < sizeLine) : DPut H a (kV k) v (upd H a (.dK (putK kvs k v))) := .inl ⟨kvs, k, e, rfl, hl, rfl⟩
theorem DPut.t {H : Hp} {a b : Addr} {kvs : List (List Key × V)} {k : List Key} {v : V} (e : H a = some (.dT kvs)) (eb : H b = some (.tup (k.map kV))) (hl : kvs.length < sizeLine) :
   DPut H a (.ref b) v (upd H a (.dT (putK kvs k v))) := .inr ⟨kvs, k, b, e, rfl, eb, hl, rfl⟩
section
variable {X : Cx} {pins : List (Addr × Obj)} {σ : St} {H : Hp} {s : Shared} {a : Addr} {y v : V} {u r : Value} {o : Option V} {A : Around} {E : Value → Shared → Prop}
theorem Inv.big (I : Inv X pins σ H s) : sysModules < s.heap.objs.size := by
 have h : mainGlobals < s.heap.objs.size := (I.mod.glob.keeps I.bk).lt
 exact Nat.lt_trans (by decide) h
theorem d_getItem {Q : Value → Shared → Prop} (hu : A.units + 1 < cLine) (I : Inv X pins σ H s) (g : DGet H a y (some v)) (ry : RelV y u) (h : ∀ w' s', Inv X pins σ H s' → RelV v w' → Q w' s') :
   wpAny (model X.prog X.w) A (getItem (.ref a) u) Q E s := by
 rcases g with ⟨kvs, k, e, ey, l⟩ | ⟨kvs, k, b, e, ey, eb, l⟩
 · subst ey
   obtain ⟨z, hd, vs, rel, dd⟩ := dk_rd I.hok e
   obtain ⟨w', hw, rw'⟩ := RelO.some_of (v := v) (o := valueAt vs k) (by rw [l]; exact rel.val k)
   exact wpAny_getItem_of (kV_is ry) dd.mapOf hw (h w' _ (I.tok _) rw')
 · subst ey
   cases (show u = Value.ref b from ry)
   obtain ⟨z, hd, xs, rel, dd⟩ := dt_rd I.hok e
   obtain ⟨w', hw, rw'⟩ := RelO.some_of (v := v) (o := (atKey xs k).map (·.2)) (by rw [l]; exact rel.val k)
   obtain ⟨p, hp, hp2⟩ := Option.map_eq_some_iff.mp hw
   refine wpAny_getItem_heap (tupleKind_room_in1 hu) (key_of I.hok eb) dd hp ?_
   rw [hp2]
   exact h w' _ (I.tok _) rw'
theorem d_write {h' : Heap} {t' : Nat} {ob : HO} (I : Inv X pins σ H s) (mu : Mut (H a)) (hs : Heap.SameBut a s.heap h') (he : ∃ q, h'.get? a = some q) (new : ObjOk X.prog X.w (upd H a ob) h' a ob) :
   Inv X pins σ (upd H a ob) { s with heap := h', toks := t' } :=
 I.write (x := a) (e := a) mu (.inl rfl) (fun b q hb z => (hs.2 b hb).trans z) he new
theorem dk_new {P : Program} {w : World} {H' : Hp} {h' : Heap} {kvs : List (Key × V)} {vs : List (Key × Value)} (z : kvs.length ≤ sizeLine) (hd : (a == sysModules) = false) (rel : KV kvs vs) (dd : h'.DictOf (mixKind P w) a vs) :
   ObjOk P w H' h' a (.dK kvs) := ⟨z, hd, vs, rel, dd⟩
theorem d_setItem {H' : Hp} {Q : Unit → Shared → Prop} (hu : A.units + 1 < cLine) (I : Inv X pins σ H s) (g : DPut H a y v H') (ry : RelV y u) (rv : RelV v r) (h : ∀ s', Inv X pins σ H' s' → Q () s') :
   wpAny (model X.prog X.w) A (setItem (.ref a) u r) Q E s := by
 rcases g with ⟨kvs, k, e, ey, l, eH⟩ | ⟨kvs, k, b, e, ey, eb, l, eH⟩
 · subst ey eH
   obtain ⟨z, hd, vs, rel, dd⟩ := dk_of I.hok e
   have hz : vs.length ≤ sizeLine := by rw [← rel.length]; exact z
   have hl : (putK kvs k v).length ≤ sizeLine := by have := length_putK kvs k v; lia
   refine wpAny_setItem_pairs (hsz := hz) (kV_is ry) dd fun h' dd' hs => h _ ?_
   have he : ∃ q, h'.get? a = some q := let ⟨q, _, _, hq, _⟩ := dd'; ⟨q, hq⟩
   exact d_write I (by rw [e]; exact True.intro) hs he (dk_new hl hd (rel.put k rv) dd')
 · subst ey eH
   cases (show u = Value.ref b from ry)
   obtain ⟨z, hd, xs, rel, dd⟩ := dt_of I.hok e
   have hz : xs.length ≤ sizeLine := by rw [← Paired.length rel]; exact z
   have hl : (putK kvs k v).length ≤ sizeLine := by have := length_putK kvs k v; lia
   refine wpAny_setItem_heap (hsz := hz) (tupleKind_room_in1 hu) (key_of I.hok eb) dd fun h' dd' hs => h _ ?_
   obtain ⟨q, es, ep, hq, h2, h3, h4, _, h5⟩ := dd'
   refine d_write I (by rw [e]; exact True.intro) hs ⟨q, hq⟩ ⟨hl, hd, _, (rel.put k eb rv).keeps fun c ys ec => ?_, q, es, ep, hq, h2, h3, h4, h5⟩
   rw [upd_ne (ne_of ec e (fun z => nomatch z))]
   exact ec
end
section
variable {X : Cx} {pins : List (Addr × Obj)} {σ : St} {H : Hp} {s : Shared} {a : Addr} {kvs : List (Key × V)} {k : Key} {u : Value} {A : Around} {E : Value → Shared → Prop}
end
noncomputable def NoSl (i : Expr) : Prop := ∀ ov iv, subscripted i false ov iv = operate [ov, iv] (getItem ov iv)
theorem subD_of {prog : Program} {w : World} {A : Around} {E : Value → Shared → Prop} {s : Shared} {env : Env} {value slice : Expr} {pos : Pos} {T id : String} {Q : Value → Shared → Prop}
   (hl : typeLookup (.type T) "__getitem__" = pure (some (.builtin id))) (hs : NoSl slice)
   (h : wpAny (model prog w) A (eval value env) (fun o s₁ => wpAny (model prog w) A (eval slice env) (fun i s₂ => s₂.TypeIs o T ∧ wpAny (model prog w) A (getItem o i) Q E s₂) E s₁) E s) :
   wpAny (model prog w) A (eval (.Subscript value slice pos) env) Q E s := by
 refine Subscript_ (wpAny_mono h (fun o s₁ h₁ => wpAny_mono h₁ (fun i s₂ h₂ => ?_) fun _ _ x => x) fun _ _ x => x)
 obtain ⟨hT, h₂⟩ := h₂
 unfold subscriptTail
 refine wpAny_bind ?_
 rw [getitemInPython_of_ne hT.not_modules]
 refine wpAny_bind (wpAny_specialOf hT hl ?_)
 have fin : wpAny (model prog w) A (subscripted slice false o i) (fun r s₃ => wpAny (model prog w) A (letTemporaryGo value o r >>= fun _ => pure r) Q E s₃) E s₂ := by
   rw [hs o i]
   exact wpAny_operating (wpAny_mono h₂ (fun r s₃ h₃ => wpAny_bind (wpAny_letTemporaryGo (wpAny_pure h₃))) fun _ _ x => x)
 first
   | exact wpAny_pure (wpAny_bind fin)
   | exact wpAny_bind (wpAny_pure (wpAny_bind fin))
   | exact wpAny_bind fin
theorem dict_typeIs {X : Cx} {pins : List (Addr × Obj)} {σ : St} {H : Hp} {s : Shared} {a : Addr} {y : V} {o : Option V} (I : Inv X pins σ H s) (g : DGet H a y o) : s.TypeIs (.ref a) "dict" := by
 rcases g with ⟨kvs, k, e, _, _⟩ | ⟨kvs, k, b, e, _, _, _⟩
 · obtain ⟨_, _, vs, _, dd⟩ := dk_rd I.hok e
   exact dd.typeIs
 · obtain ⟨_, _, xs, _, dd⟩ := dt_rd I.hok e
   exact dd.typeIs
noncomputable def tDGet (td ty : TE) : TE := fun σ H Q => td σ H fun x H1 => ty σ H1 fun y H2 => ∃ a v, x = .ref a ∧ DGet H2 a y (some v) ∧ Q v H2
noncomputable def sDPut (td ty tv : TE) : TS := fun D σ H => tv σ H fun v H1 => td σ H1 fun x H2 => ty σ H2 fun y H3 => ∃ a H4, x = .ref a ∧ DPut H3 a y v H4 ∧ D.nx σ H4
noncomputable def sDAug (td ty tv : TE) (rd : V → V → Hp → VK → Prop) : TS := fun D σ H => td σ H fun x H1 => ty σ H1 fun y H2 => ∃ a v, x = .ref a ∧ DGet H2 a y (some v) ∧
 tv σ H2 fun y2 H3 => rd v y2 H3 fun z H4 => ∃ H5, DPut H4 a y z H5 ∧ D.nx σ H5
section
variable {X : Cx} {o i e value : Expr} {pos pos' tpos : Pos} {td ty tv : TE}
theorem pe_dget (hu : X.A.units + 1 < cLine) (ho : PE X o td) (hi : PE X i ty) (hs : NoSl i) : PE X (.Subscript o i pos) (tDGet td ty) := by
 intro pins s σ H Q I h
 refine subD_of PySem.F.slot_dict_getitem.lookup hs (thn (ho pins s σ H _ I h) fun u s1 ⟨x, H1, I1, rx, q1⟩ => thn (hi pins s1 σ H1 _ I1 q1) fun iv s2 ⟨y, H2, I2, ry, a, v, ex, g, q2⟩ => ?_)
 subst ex
 obtain rfl : u = Value.ref a := rx
 exact ⟨dict_typeIs I2 g, d_getItem hu I2 g ry fun w' s3 I3 rw' => ⟨v, H2, I3, rw', q2⟩⟩
theorem ps_dput (hu : X.A.units + 1 < cLine) (ho : PE X o td) (hi : PE X i ty) (hv : PE X value tv) (hs : swapsWith value (some (.Subscript o i pos')) pos.line X.env = pure false) :
   PS X (.Assign [.Subscript o i pos'] value pos) (sDPut td ty tv) := by
 intro pins s σ H D I h
 refine wpAny_Assign_Subscript (thn (hv pins s σ H _ I h) fun r s1 ⟨v, H1, I1, rv, q1⟩ => thn (ho pins s1 σ H1 _ I1 q1) fun u s2 ⟨x, H2, I2, rx, q2⟩ => thn (hi pins s2 σ H2 _ I2 q2) fun iv s3 ⟨y, H3, I3, ry, a, H4, ex, g, q3⟩ => ?_) hs
 subst ex
 obtain rfl : u = Value.ref a := rx
 exact d_setItem hu I3 g ry rv fun s4 I4 => ⟨σ, H4, I4, q3⟩
theorem ps_daug {op : Operator} {rd : V → V → Hp → VK → Prop} (hu : X.A.units + 1 < cLine) (ho : PE X o td) (hi : PE X i ty) (hv : PE X value tv) (hop : InOp X op rd)
   (ha : ∀ ov iv new, augStore i ov iv new = (do holding [new, ov, iv] (setItem ov iv new); release [new, ov, iv] []; pure .next)) : PS X (.AugAssign (.Subscript o i tpos) op value pos) (sDAug td ty tv rd) := by
 intro pins s σ H D I h
 refine wpAny_AugAssign_SubscriptAny (thn (ho pins s σ H _ I h) fun u s1 ⟨x, H1, I1, rx, q1⟩ => thn (hi pins s1 σ H1 _ I1 q1) fun iv s2 ⟨y, H2, I2, ry, a, v, ex, g, q2⟩ => ?_) ha
 subst ex
 obtain rfl : u = Value.ref a := rx
 refine d_getItem hu I2 g ry fun w' s3 I3 rw' => thn (hv pins s3 σ H2 _ I3 q2) fun w2 s4 ⟨y2, H3, I4, ry2, q3⟩ => thn (hop pins s4 σ H3 v y2 w' w2 _ I4 rw' ry2 q3) fun w3 s5 ⟨z, H4, I5, rz, H5, g5, q4⟩ => ?_
 exact d_setItem hu I5 g5 ry rz fun s6 I6 => ⟨σ, H5, I6, q4⟩
end
theorem dk_empty {P : Program} {w : World} {H : Hp} (h : Heap) (hb : sysModules < h.objs.size) : ObjOk P w H (h.push { cls := .type "dict", data := .dict #[] }) h.objs.size (.dK []) :=
 ⟨Nat.zero_le _, beq_eq_false_iff_ne.mpr (Ne.symm (Nat.ne_of_lt hb)), [], .nil, Heap.DictOf.new h⟩
theorem dt_empty {P : Program} {w : World} {H : Hp} (h : Heap) (hb : sysModules < h.objs.size) : ObjOk P w H (h.push { cls := .type "dict", data := .dict #[] }) h.objs.size (.dT []) :=
 ⟨Nat.zero_le _, beq_eq_false_iff_ne.mpr (Ne.symm (Nat.ne_of_lt hb)), [], .nil, _, #[], 0, Heap.get?_push_size _ rfl, ⟨rfl, rfl, rfl⟩, rfl, rfl, List.nodup_nil⟩
noncomputable def tDNewK : TE := fun _ H Q => ∀ p, H p = none → Q (.ref p) (upd H p (.dK []))
noncomputable def tDNewT : TE := fun _ H Q => ∀ p, H p = none → Q (.ref p) (upd H p (.dT []))
section
variable {X : Cx} {pos : Pos}
theorem pe_dnewK : PE X (.Dict [] [] pos) tDNewK := fun pins s σ H Q I h =>
 wpAny_Dict_empty ⟨.ref s.heap.objs.size, _, I.laid (a := s.heap.objs.size) (o := .dK []) (t' := s.toks) (fun _ _ q => Heap.get?_push_of_some _ q) (Nat.le_refl _) (dk_empty s.heap I.big), rfl, h _ (I.hok.fresh (Nat.le_refl _))⟩
theorem pe_dnewT : PE X (.Dict [] [] pos) tDNewT := fun pins s σ H Q I h =>
 wpAny_Dict_empty ⟨.ref s.heap.objs.size, _, I.laid (a := s.heap.objs.size) (o := .dT []) (t' := s.toks) (fun _ _ q => Heap.get?_push_of_some _ q) (Nat.le_refl _) (dt_empty s.heap I.big), rfl, h _ (I.hok.fresh (Nat.le_refl _))⟩
end
structure M1 (X : Cx) (o : Expr) (m : Str) (apos : Pos) (e : Expr) (cpos : Pos) : Prop where
 base : attributeBase o m X.env (eval o X.env) = eval o X.env
 few : ((backTo cpos (starEach [e] X.env)).all (fun x => !x.1) && (backToKw cpos (keywordEach [] X.env)).all (fun x => x.1.isSome)
   && decide (([e] : List Expr).length + ([] : List Keyword).length + (if ([] : List Keyword).isEmpty then 0 else 1) < 30)) = true
 line : (apos.endLine == cpos.line) = true
 trees : backTo cpos (starEach [e] X.env) = [(false, eval e X.env)]
section
variable {X : Cx} {pins : List (Addr × Obj)} {σ : St} {H : Hp} {s : Shared} {a : Addr} {y d : V} {u r : Value} {o : Option V} {A : Around} {E : Value → Shared → Prop}
end
section
variable {X : Cx} {o e f : Expr} {apos cpos : Pos} {td ty tx : TE}
end
end L2
namespace L2
open PySem PySem.Spec PyProof.Rows
noncomputable def cloOf (env : Env) : List (Str × NameKind) → List (Str × Addr) → List (Str × Addr)
 | [], acc => acc
 | (n, k) :: r, acc => cloOf env r (if k == .free then (n, (env.cells.lookup n).getD 0) :: acc else acc)
theorem cloOf_cons (env : Env) (n : Str) (k : NameKind) (r : List (Str × NameKind)) (acc : List (Str × Addr)) : cloOf env ((n, k) :: r) acc = cloOf env r (if k == .free then (n, (env.cells.lookup n).getD 0) :: acc else acc) := rfl
theorem closure_forIn (env : Env) (f : Str × NameKind → List (Str × Addr) → Sem (ForInStep (List (Str × Addr))))
   (hf : ∀ n k cs, f (n, k) cs = if (k == .free) = true then (do let a ← cellOf env n; pure (.yield ((n, a) :: cs))) else pure (.yield cs)) :
   ∀ (names : List (Str × NameKind)) (acc : List (Str × Addr)), (∀ y ∈ names, y.2 = .free → ∃ c, env.cells.lookup y.1 = some c) → forIn names acc f = (pure (cloOf env names acc) : Sem _)
 | [], acc, _ => by rw [List.forIn_nil]; rfl
 | (n, k) :: r, acc, h => by
   rw [List.forIn_cons, hf]
   have hr : ∀ y ∈ r, y.2 = .free → ∃ c, env.cells.lookup y.1 = some c := fun y hy => h y (List.mem_cons_of_mem _ hy)
   by_cases hk : (k == NameKind.free) = true
   · rw [if_pos hk]
     obtain ⟨c, hc⟩ := h (n, k) List.mem_cons_self (by simpa using hk)
     have hc' : env.cells.lookup n = some c := hc
     have e : cellOf env n = pure c := by unfold cellOf; rw [hc']
     rw [e]
     simp only [pure_bind]
     rw [closure_forIn env f hf r _ hr]
     rw [cloOf_cons, if_pos hk, hc']
     rfl
   · rw [if_neg hk]
     simp only [pure_bind]
     rw [closure_forIn env f hf r _ hr]
     rw [cloOf_cons, if_neg hk]
theorem closureFor_eq (scope : Scope) (env : Env) (h : ∀ y ∈ scope.names, y.2 = .free → ∃ c, env.cells.lookup y.1 = some c) : closureFor scope env = pure (cloOf env scope.names []) := by
 unfold closureFor
 dsimp only
 rw [closure_forIn env _ (fun n k cs => by cases hk : (k == NameKind.free) <;> simp [hk] <;> rfl) scope.names [] h]
 rfl
theorem cloOf_lookup (env : Env) : ∀ (names : List (Str × NameKind)) (acc : List (Str × Addr)) (x : Str) (c : Addr), (cloOf env names acc).lookup x = some c →
   (acc.lookup x = some c ∨ ((x, .free) ∈ names ∧ c = (env.cells.lookup x).getD 0))
 | [], acc, x, c, h => .inl h
 | (n, k) :: r, acc, x, c, h => by
   rw [cloOf_cons] at h
   rcases cloOf_lookup env r _ x c h with q | ⟨q1, q2⟩
   · split at q
     · rename_i hk
       have hk' : k = .free := by simpa using hk
       subst hk'
       rw [List.lookup_cons] at q
       split at q
       · rename_i hx
         have : x = n := by simpa using hx
         subst this
         cases q
         exact .inr ⟨List.mem_cons_self, rfl⟩
       · exact .inl q
     · exact .inl q
   · exact .inr ⟨List.mem_cons_of_mem _ q1, q2⟩
theorem cloOf_acc (env : Env) : ∀ (names : List (Str × NameKind)) (acc : List (Str × Addr)) (x : Str), (∃ c, acc.lookup x = some c) → ∃ c, (cloOf env names acc).lookup x = some c
 | [], acc, x, h => h
 | (n, k) :: r, acc, x, h => by
   rw [cloOf_cons]
   refine cloOf_acc env r _ x ?_
   split
   · rw [List.lookup_cons]
     split
     · exact ⟨_, rfl⟩
     · exact h
   · exact h
theorem cloOf_has (env : Env) : ∀ (names : List (Str × NameKind)) (acc : List (Str × Addr)) (x : Str), (x, NameKind.free) ∈ names → ∃ c, (cloOf env names acc).lookup x = some c
 | [], acc, x, h => by simp at h
 | (n, k) :: r, acc, x, h => by
   rw [cloOf_cons]
   rcases List.mem_cons.mp h with e | h
   · cases e
     refine cloOf_acc env r _ _ ?_
     rw [if_pos (by decide), List.lookup_cons]
     simp
   · exact cloOf_has env r _ x h
noncomputable def ownB (names : List (Str × NameKind)) (x : Str) : Bool := names.any fun y => y.1 == x && y.2 == .cell
theorem ownB_mem {names : List (Str × NameKind)} {x : Str} : ownB names x = true ↔ (x, NameKind.cell) ∈ names := by
 unfold ownB
 rw [List.any_eq_true]
 constructor
 · rintro ⟨⟨n, k⟩, h, e⟩
   simp only [Bool.and_eq_true, beq_iff_eq] at e
   obtain ⟨rfl, rfl⟩ := e
   exact h
 · intro h
   exact ⟨_, h, by simp⟩
theorem cellsFrom_app : ∀ (names : List (Str × NameKind)) (n : Nat) (acc : List (Str × Addr)), cellsFrom n names acc = cellsFrom n names [] ++ acc
 | [], _, _ => rfl
 | (x, k) :: r, n, acc => by
   unfold cellsFrom
   split
   · rw [cellsFrom_app r (n + 1) ((x, n) :: acc), cellsFrom_app r (n + 1) [(x, n)], List.append_assoc]; rfl
   · exact cellsFrom_app r n acc
theorem cellsFrom_in : ∀ (names : List (Str × NameKind)) (n : Nat) {x : Str} {c : Addr}, (x, c) ∈ cellsFrom n names [] → n ≤ c ∧ (x, NameKind.cell) ∈ names
 | [], _, _, _, h => nomatch h
 | (y, k) :: r, n, x, c, h => by
   unfold cellsFrom at h
   split at h
   · rename_i hk
     have hk' : k = .cell := by simpa using hk
     subst hk'
     rw [cellsFrom_app] at h
     rcases List.mem_append.mp h with h | h
     · have := cellsFrom_in r (n + 1) h
       exact ⟨by lia, List.mem_cons_of_mem _ this.2⟩
     · cases List.mem_singleton.mp h
       exact ⟨Nat.le_refl _, List.mem_cons_self⟩
   · have := cellsFrom_in r n h
     exact ⟨this.1, List.mem_cons_of_mem _ this.2⟩
theorem cellsFrom_has : ∀ (names : List (Str × NameKind)) (n : Nat) {x : Str}, (x, NameKind.cell) ∈ names → ((cellsFrom n names []).lookup x).isSome = true
 | [], _, _, h => nomatch h
 | (y, k) :: r, n, x, h => by
   unfold cellsFrom
   rcases List.mem_cons.mp h with e | h
   · cases e
     rw [if_pos (by decide), cellsFrom_app, List.lookup_append]
     cases hh : (cellsFrom (n + 1) r []).lookup y with
     | some c => rfl
     | none => simp
   · have i0 := cellsFrom_has r n h
     have i1 := cellsFrom_has r (n + 1) h
     split
     · rw [cellsFrom_app, List.lookup_append]
       cases hh : (cellsFrom (n + 1) r []).lookup x with
       | some c => rfl
       | none => rw [hh] at i1; cases i1
     · exact i0
theorem cellsFrom_apart : ∀ (names : List (Str × NameKind)) (n : Nat), (cellsFrom n names []).Pairwise fun x y => x.2 ≠ y.2
 | [], _ => List.Pairwise.nil
 | (y, k) :: r, n => by
   unfold cellsFrom
   split
   · rw [cellsFrom_app]
     refine List.pairwise_append.mpr ⟨cellsFrom_apart r (n + 1), List.pairwise_singleton _ _, fun a ha b hb => ?_⟩
     rw [List.mem_singleton.mp hb]
     have := (cellsFrom_in r (n + 1) (x := a.1) (c := a.2) ha).1
     show a.2 ≠ n
     exact Nat.ne_of_gt (Nat.lt_of_succ_le this)
   · exact cellsFrom_apart r n
theorem wpAny_newBlockEnv {M : Model} {A : Around} {E : Value → Shared → Prop} {s : Shared} {scope : Scope} {globals : Addr} {closure : List (Str × Addr)} {qual : Str} {func : Option Addr} {code : Value} {around : Env} {builtins : Addr} {Q : Env → Shared → Prop}
   (hQ : ∀ h', h' = pushCells (s.heap.push { cls := .type "dict", data := .dict #[] }) scope.names → Q (newEnv scope s.heap.objs.size globals (cellsFrom (s.heap.objs.size + 1) scope.names [] ++ closure) qual func code (some around) builtins) { s with heap := h' }) :
   wpAny M A (newFunctionEnv scope globals closure [] qual func code (some around) builtins) Q E s := by
 simp only [newFunctionEnv, Option.isSome_some, if_true]
 refine wpAny_bind (wpAny_alloc ?_)
 refine wpAny_bind (wpAny_layCells _ (fun name kind cells => by cases hkc : kind == NameKind.cell <;> simp [hkc]) _ _ _ _ ?_)
 rw [cellsFrom_app, show ({ s with heap := s.heap.push { cls := .type "dict", data := .dict #[] } } : Shared).heap.objs.size = s.heap.objs.size + 1 from Heap.size_push ..]
 refine wpAny_bind ?_
 rw [List.forIn_nil]
 exact wpAny_pure (wpAny_pure (hQ _ rfl))
section
variable {prog : Program} {w : World} {A : Around} {R : Result → Shared → Prop} {s : Shared}
theorem codeAny_compLoop_gen {elt target iter : Expr} {ifs : List Expr} {scope : Scope} {pos : Pos} {it acc : Value} {env : Env} (I : Nat → Shared → Prop)
   (turn : ∀ n s, I n s → wpAny (model prog w) A (pyNext it) (fun r s₁ => match r with
     | none => R (.ok .next) s₁
     | some v => wpAny (model prog w) A (letOwnedTupleGo target it v) (fun _ s₁' => wpAny (model prog w) A (assign target env v) (fun _ s₂ =>
         wpAny (model prog w) A (forIn ifs true fun c r => if r = true then do let ok ← isTrue c env (eval c env); pure (ForInStep.yield ok) else pure (ForInStep.yield r)) (fun ok s₃ =>
           if ok = true then wpAny (model prog w) A (eval elt env) (fun x s₄ =>
             wpAny (model prog w) A (call (.builtin "list.append") [acc, x]) (fun _ s₅ => ∃ m, m < n ∧ I m s₅) (notedBy (model prog w) A env fun e s' => R (.error e) s') s₄) (notedBy (model prog w) A env fun e s' => R (.error e) s') s₃
           else ∃ m, m < n ∧ I m s₃) (notedBy (model prog w) A env fun e s' => R (.error e) s') s₂) (notedBy (model prog w) A env fun e s' => R (.error e) s') s₁') (notedBy (model prog w) A env fun e s' => R (.error e) s') s₁) (notedBy (model prog w) A env fun e s' => R (.error e) s') s)
   (n : Nat) (h : I n s) :
   codeAny (model prog w) A (.compLoop (.ListComp elt [⟨target, iter, ifs, 0⟩] scope pos) 0 it acc env) R s := by
 refine codeAny_loop rfl I (fun n s hI => ?_) n h
 show wpAny _ A ((compTurn (.ListComp elt [⟨target, iter, ifs, 0⟩] scope pos) 0 it acc env).onRaise (fun x => do noteFrame x env; theTreesLotGoes x)) _ _ s
 refine wpAny_noted ?_
 rw [compTurn_list]
 refine wpAny_bind (wpAny_standAt (wpAny_bind (wpAny_mono (turn n s hI) (fun r s₁ h₁ => ?_) fun _ _ h' => h')))
 cases r with
 | none => exact wpAny_pure h₁
 | some v =>
   refine wpAny_bind (wpAny_mono h₁ (fun _ s₁' h₁' => wpAny_bind (wpAny_mono h₁' (fun _ s₂ h₂ => wpAny_bind (wpAny_mono h₂ (fun ok s₃ h₃ => ?_) fun _ _ h' => h')) fun _ _ h' => h')) fun _ _ h' => h')
   cases ok with
   | false => exact wpAny_pure ⟨rfl, h₃⟩
   | true =>
     exact wpAny_bind (wpAny_bind (wpAny_mono h₃ (fun x s₄ h₄ => wpAny_bind (wpAny_mono h₄ (fun _ s₅ h₅ => wpAny_pure (wpAny_pure ⟨rfl, h₅⟩)) fun _ _ h' => h')) fun _ _ h' => h'))
end
noncomputable def blk (X : Cx) (N' : List Str) (scope : Scope) (C : Addr) (s : Shared) (H : Hp) (fp : List Addr) (pins : List (Addr × Obj)) : Cx where
 prog := X.prog
 w := X.w
 K := X.K
 mg := X.mg
 base := X.base
 A := X.A
 N := N'
 s₀ := s
 H₀ := H
 env := compEnvC scope (cellsFrom (C + 1) scope.names [] ++ cloOf X.env scope.names []) C X.env
 outer := X.stack
 stack := X.stack
 ex := fp
 fn := ownB scope.names
 calm := X.calm
 pn := X.pn ++ pins
 xe := fun _ _ => False
structure BlkScope (X : Cx) (N' : List Str) (ix : List (Option Nat)) (scope : Scope) : Prop where
 kind : scope.kind = .function
 locs : ∀ y ∈ scope.names, y.2 = .local → scope.names.lookup y.1 = some .local
 frees : ∀ y ∈ scope.names, y.2 = .free → (X.env.kindOf y.1 = some .cell ∨ X.env.kindOf y.1 = some .free)
 look : ∀ x k, (relabel scope X.env).names.lookup x = some k → (k = .cell ∨ k = .free) → (x, NameKind.free) ∈ scope.names ∨ (x, NameKind.cell) ∈ scope.names
 lenI : ix.length = N'.length
 at_ : ∀ (i j : Nat) (x : Str), ix[i]? = some (some j) → N'[i]? = some x → X.N[j]? = some x ∧ (x, NameKind.free) ∈ scope.names ∧ ownB scope.names x = false ∧ (relabel scope X.env).names.lookup x = X.env.kindOf x
variable {X : Cx} {pins : List (Addr × Obj)} {σ : St} {H : Hp} {s : Shared} {N' : List Str} {ix : List (Option Nat)} {scope : Scope}
noncomputable def pick (ix : List (Option Nat)) (σ : St) : St := ix.map fun o => match o with | some j => (σ[j]?).join | none => none
theorem pick_get {i : Nat} {v : V} (e : (pick ix σ)[i]? = some (some v)) : ∃ j, ix[i]? = some (some j) ∧ σ[j]? = some (some v) := by
 unfold pick at e
 rw [List.getElem?_map] at e
 cases h : ix[i]? with
 | none => rw [h] at e; cases e
 | some o =>
   rw [h] at e
   cases o with
   | none =>
     have e' : (none : Option V) = some v := Option.some.inj e
     cases e'
   | some j =>
     have e' : (σ[j]?).join = some v := Option.some.inj e
     refine ⟨j, rfl, ?_⟩
     cases hj : σ[j]? with
     | none => rw [hj] at e'; cases e'
     | some u => rw [hj] at e'; exact congrArg some e'
theorem blk_cells (I : Inv X pins σ H s) (S : BlkScope X N' ix scope) (C : Addr) {x : Str} {c : Addr} (e : (cellsFrom (C + 1) scope.names [] ++ cloOf X.env scope.names []).lookup x = some c) :
   (C < c ∧ (cellsFrom (C + 1) scope.names []).lookup x = some c) ∨ (ownB scope.names x = false ∧ X.env.cells.lookup x = some c) := by
 rw [List.lookup_append] at e
 cases h : (cellsFrom (C + 1) scope.names []).lookup x with
 | some c' =>
   rw [h] at e
   cases e
   exact .inl ⟨(cellsFrom_in _ _ (mem_of_lookup h)).1, rfl⟩
 | none =>
   rw [h] at e
   refine .inr ⟨Bool.eq_false_iff.mpr fun z => ?_, ?_⟩
   · have := cellsFrom_has scope.names (C + 1) (ownB_mem.mp z)
     rw [h] at this; cases this
   · have e' : (cloOf X.env scope.names []).lookup x = some c := e
     rcases cloOf_lookup X.env scope.names [] x c e' with q | ⟨q, rfl⟩
     · cases q
     · obtain ⟨c, hc⟩ := I.ok.has x (S.frees _ q rfl)
       rw [hc] <;> rfl
theorem blk_ok {fp : List Addr} {C : Addr} (I : Inv X pins σ H s) (hf : ∀ b ∈ fp, FpOk X pins H b) (S : BlkScope X N' ix scope) (hC : s.heap.objs.size ≤ C) (hfo : ∀ b ∈ fp, ∃ o, s.heap.get? b = some o) :
   (blk X N' scope C s H fp pins).Ok := by
 have lt : ∀ x c, X.env.cells.lookup x = some c → c < C := fun x c e => by
   obtain ⟨v, z⟩ := I.cell x c e
   exact Nat.lt_of_lt_of_le z.lt hC
 refine ⟨I.ok.mod, ?_, I.ok.glob, I.ok.blt, hC, fun x y c h1 h2 => ?_, fun x hx => ?_, fun x c hf' e => ?_, I.ok.hd, I.ok.frames, .inl rfl, fun b hb => ?_, I.bs, Nat.le_trans I.ok.bsz I.sz, fun b o e hb => ?_, fun b hb hs => ?_, I.stack, I.stkFree⟩
 · exact S.kind
 · rcases blk_cells I S C h1 with ⟨a1, a2⟩ | ⟨a1, a2⟩ <;> rcases blk_cells I S C h2 with ⟨b1, b2⟩ | ⟨b1, b2⟩
   · exact name_of_addr (cellsFrom_apart _ _) (mem_of_lookup a2) (mem_of_lookup b2)
   · exact absurd (Nat.lt_trans (lt _ _ b2) a1) (Nat.lt_irrefl _)
   · exact absurd (Nat.lt_trans (lt _ _ a2) b1) (Nat.lt_irrefl _)
   · exact I.ok.inj x y c a2 b2
 · have hx' : (relabel scope X.env).names.lookup x = some .cell ∨ (relabel scope X.env).names.lookup x = some .free := hx
   have key : (x, NameKind.free) ∈ scope.names ∨ (x, NameKind.cell) ∈ scope.names := by
     rcases hx' with hx' | hx'
     · exact S.look x _ hx' (.inl rfl)
     · exact S.look x _ hx' (.inr rfl)
   show ∃ c, (cellsFrom (C + 1) scope.names [] ++ cloOf X.env scope.names []).lookup x = some c
   rw [List.lookup_append]
   cases h : (cellsFrom (C + 1) scope.names []).lookup x with
   | some c => exact ⟨c, rfl⟩
   | none =>
     rcases key with k | k
     · obtain ⟨c, hc⟩ := cloOf_has X.env scope.names [] x k
       exact ⟨c, by rw [hc]; rfl⟩
     · have := cellsFrom_has scope.names (C + 1) k
       rw [h] at this; cases this
 · rcases blk_cells I S C e with ⟨a1, a2⟩ | ⟨a1, a2⟩
   · exact Nat.le_of_lt (Nat.lt_of_le_of_lt hC a1)
   · have hf2 : ownB scope.names x = true := hf'
     rw [a1] at hf2; cases hf2
 · obtain ⟨f0, f1, f2, f3, f4, f5⟩ := hf b hb
   obtain ⟨o, ho⟩ := hfo b hb
   refine ⟨Nat.ne_of_lt (Nat.lt_of_lt_of_le (Heap.lt_size ho) hC), fun x c e => ?_⟩
   rcases blk_cells I S C e with ⟨a1, a2⟩ | ⟨a1, a2⟩
   · exact Nat.ne_of_gt (Nat.lt_trans (Nat.lt_of_lt_of_le (Heap.lt_size ho) hC) a1)
   · exact f4 x c a2
 · obtain ⟨f0, f1, f2, f3, f4, f5⟩ := hf b hb
   have := (I.ok.bs b o e).1
   rcases f3 with z | z
   · exact I.ok.noex b o e z
   · exact absurd (Nat.lt_of_lt_of_le (Heap.lt_size this) z) (Nat.lt_irrefl _)
 · obtain ⟨f0, f1, f2, f3, f4, f5⟩ := hf b hb
   rcases List.mem_cons.mp (I.stkSub b hs) with e | e
   · exact f1 e
   · exact f2 e
theorem blk_start {fp : List Addr} {C : Addr} {h₁ : Heap} {tk : Nat} (I : Inv X pins σ H s) (hf : ∀ b ∈ fp, FpOk X pins H b) (S : BlkScope X N' ix scope) (hC : s.heap.objs.size ≤ C) (hfo : ∀ b ∈ fp, ∃ o, s.heap.get? b = some o)
   (hns : h₁.Ns C (fun _ => none)) (hk : ∀ b o, s.heap.get? b = some o → h₁.get? b = some o) (hown : ∀ x c, (x, c) ∈ cellsFrom (C + 1) scope.names [] → h₁.IsCell c none) :
   Inv (blk X N' scope C s H fp pins) [] (pick ix σ) H { s with heap := h₁, toks := tk } := by
 have nC : ∀ b o, s.heap.get? b = some o → b ≠ C := fun b o e => Nat.ne_of_lt (Nat.lt_of_lt_of_le (Heap.lt_size e) hC)
 refine ⟨blk_ok I hf S hC hfo, rfl, I.bare, Un.kept hk, ⟨_, hns, fun i x v h1 h2 h3 => ?_⟩, fun x c e => ?_, I.hok.fresh hC, fun x c e => ?_, fun p hp => ?_, I.hok.kept hk, ?_⟩
 · obtain ⟨j, e1, e2⟩ := pick_get h2
   obtain ⟨a1, a2, a4, a3⟩ := S.at_ i j x e1 h1
   have kd := S.frees _ a2 rfl
   have vis : Vis X.env.scope x := by
     rcases kd with k | k
     · exact .inr (.inl k)
     · exact .inr (.inr k)
   obtain ⟨m, hn, hl⟩ := I.loc
   obtain ⟨u, r, l⟩ := hl j x v a1 e2 vis
   refine ⟨u, r, .inr ?_⟩
   have kd' : X.env.kindOf x = some .cell ∨ X.env.kindOf x = some .free := kd
   rcases l with ⟨k, _⟩ | ⟨k, c, ec, z⟩
   · rcases kd' with q | q <;> (rw [q] at k; cases k)
   · refine ⟨?_, c, ?_, z.keeps hk⟩
     · show (relabel scope X.env).names.lookup x = some .cell ∨ (relabel scope X.env).names.lookup x = some .free
       rw [a3]; exact kd'
     · obtain ⟨c', hc'⟩ := cloOf_has X.env scope.names [] x a2
       show (cellsFrom (C + 1) scope.names [] ++ cloOf X.env scope.names []).lookup x = some c
       have hn : (cellsFrom (C + 1) scope.names []).lookup x = none := by
         cases h : (cellsFrom (C + 1) scope.names []).lookup x with
         | none => rfl
         | some c2 =>
           have := ownB_mem.mpr (cellsFrom_in _ _ (mem_of_lookup h)).2
           rw [a4] at this; cases this
       rw [List.lookup_append, hn]
       show (cloOf X.env scope.names []).lookup x = some c
       rcases cloOf_lookup X.env scope.names [] x c' hc' with q | ⟨q, q2⟩
       · cases q
       · rw [hc', q2, ec]; rfl
 · rcases blk_cells I S C e with ⟨a1, a2⟩ | ⟨a1, a2⟩
   · exact ⟨none, hown x c (mem_of_lookup a2)⟩
   · obtain ⟨v, z⟩ := I.cell x c a2
     exact ⟨v, z.keeps hk⟩
 · rcases blk_cells I S C e with ⟨a1, a2⟩ | ⟨a1, a2⟩
   · exact I.hok.fresh (Nat.le_of_lt (Nat.lt_of_le_of_lt hC a1))
   · exact I.freeC x c a2
 · have hp' : p ∈ X.pn ++ pins := by
     have : p ∈ (X.pn ++ pins) ++ [] := hp
     simpa using this
   obtain ⟨e, n, ne, nf, d⟩ := I.pin p hp'
   refine ⟨hk _ _ e, n, nC _ _ e, fun hb => ?_, d⟩
   rcases List.mem_cons.mp (I.stkSub _ hb) with z | z
   · exact ne z
   · exact nf z
 · show (pick ix σ).length = N'.length
   unfold pick
   rw [List.length_map, S.lenI]
theorem blk_end {fp : List Addr} {C D : Addr} {h' : Heap} {H' : Hp} {σ' : St} {s' : Shared} {ys : List V} {its : List Value} {cap : Nat} (I : Inv X pins σ H s) (hf : ∀ b ∈ fp, FpOk X pins H b) (hC : s.heap.objs.size ≤ C) (hD : s.heap.objs.size ≤ D) (hDC : D ≠ C)
   (J : Inv (blk X N' scope C s H fp pins) [] σ' H' s') (hDn : H' D = none) (ho : s'.heap.get? D = some { cls := .type "list", data := .seq its.toArray cap }) (r : Vals ys its) (hz : ys.length ≤ sizeLine) (sb : Heap.SameBut C s'.heap h') :
   Inv X pins σ (upd H' D (.lst ys)) { s' with heap := h' } := by
 have sb' : ∀ b o, b ≠ C → s'.heap.get? b = some o → h'.get? b = some o := sb.extBut
 have nC : ∀ b o, s.heap.get? b = some o → b ≠ C := fun b o e => Nat.ne_of_lt (Nat.lt_of_lt_of_le (Heap.lt_size e) hC)
 have nD : ∀ b o, s.heap.get? b = some o → b ≠ D := fun b o e => Nat.ne_of_lt (Nat.lt_of_lt_of_le (Heap.lt_size e) hD)
 have hCn : H' C = none := J.free
 have u := J.base
 refine I.call' (ch := fp) (s' := { s' with heap := h' }) J.os ⟨fun b o e n hb hx => ?_, fun b o e n hb hx => ?_, fun b o e n hx => ?_, fun b o e hx => ?_, fun b xs e => ?_, fun b o v e => ?_, fun b ps e => ?_⟩ (fun b o e => ?_) J.bare (fun b hb => ?_)
 · exact sb' _ _ (nC b o e) (u.keep b o e n hb hx)
 · obtain ⟨sl, q⟩ := u.slot b o e n hb hx
   exact ⟨sl, sb' _ _ (nC b o e) q⟩
 · rw [upd_ne (nD b o e)]; exact u.free b o e n hx
 · obtain ⟨o', q⟩ := u.there b o e hx
   exact ⟨o', sb' _ _ (nC b o e) q⟩
 · have q := u.tups b xs e
   rw [upd_ne (ne_of_none q hDn)]; exact q
 · have q := u.frzs b o v e
   rw [upd_ne (ne_of_none q hDn)]; exact q
 · obtain ⟨m, q⟩ := u.tbls b ps e
   exact ⟨m, by rw [upd_ne (ne_of_none q hDn)]; exact q⟩
 · by_cases hb : b = D
   · subst hb
     rw [upd_same] at e; cases e
     exact ⟨hz, its, cap, r, sb' _ _ hDC ho⟩
   · rw [upd_ne hb] at e
     refine (J.hok b o e).stay (fun c v hc q => sb' c v ?_ q) (fun c q => by rw [upd_ne (ne_of_none q hDn)]; exact q) fun c xs q => by rw [upd_ne (ne_of_none q hDn)]; exact q
     rcases hc with rfl | hc
     · exact ne_of_none e hCn
     · exact ne_of_none hc hCn
 · obtain ⟨f0, f1, f2, f3, f4, f5⟩ := hf b hb
   exact ⟨f3, f1, f4, f5⟩
noncomputable def tComp (wi : TI) (ix : List (Option Nat)) (g : TG) (tt : TT) (te : TE) : TE := fun σ H Q => wi σ H fun J H1 => ∃ W : Nat → Nat → List V → Hp → Prop, (∃ m, W 0 m [] H1) ∧ ∀ i m ys H, W i m ys H →
 (J.stop i H ∧ ys.length ≤ sizeLine ∧ ∀ p, H p = none → Q (.ref p) (upd H p (.lst ys))) ∨
 (J.go i H ∧ ys.length < sizeLine ∧ ∀ x H', J.yld i H x H' → g x (pick ix σ) H' fun σ2 H2 => tt σ2 H2 fun ok H3 =>
   if ok = true then te σ2 H3 fun y H4 => ∃ m', m' < m ∧ W (i + 1) m' (ys ++ [y]) H4 else ∃ m', m' < m ∧ W (i + 1) m' ys H3)
noncomputable def PTs (X : Cx) (ifs : List Expr) (t : TT) : Prop :=
 ∀ (pins : List (Addr × Obj)) (s : Shared) (σ : St) (H : Hp) (Q : Bool → Hp → Prop), Inv X pins σ H s → t σ H Q →
   wpAny (model X.prog X.w) X.A (forIn ifs true fun c r => if r = true then do let ok ← isTrue c X.env (eval c X.env); pure (ForInStep.yield ok) else pure (ForInStep.yield r)) (TP X pins σ Q) X.xe s
noncomputable def tYes : TT := fun _ H Q => Q true H
theorem pts_nil : PTs X [] tYes := fun _ _ _ H _ I h => wpAny_tests_nil ⟨H, I, h⟩
theorem pts_one {c : Expr} {t : TT} (h : PT X c t) : PTs X [c] t := fun pins s σ H Q I hw => wpAny_tests_one (h pins s σ H Q I hw)
noncomputable def Agr (ix : List (Option Nat)) (σ σ2 : St) : Prop := σ2.length = σ.length ∧ ∀ (k j : Nat), ix[k]? = some (some j) → σ2[k]? = σ[k]?
noncomputable def Own (ix : List (Option Nat)) (g : TG) : Prop := ∀ (x : V) (σ0 σ : St) (H : Hp) (Q : St → Hp → Prop), Agr ix σ0 σ → g x σ H Q → g x σ H fun σ2 H2 => Q σ2 H2 ∧ Agr ix σ0 σ2
noncomputable def Owns (ix : List (Option Nat)) (g : TGs) : Prop := ∀ (x : List V) (σ0 σ : St) (H : Hp) (Q : St → Hp → Prop), Agr ix σ0 σ → g x σ H Q → g x σ H fun σ2 H2 => Q σ2 H2 ∧ Agr ix σ0 σ2
noncomputable def GMono (g : TG) : Prop := ∀ (x : V) (σ : St) (H : Hp) (Q Q' : St → Hp → Prop), (∀ σ H, Q σ H → Q' σ H) → g x σ H Q → g x σ H Q'
theorem own_name {ix : List (Option Nat)} {i : Nat} (h : ix[i]? = some none) : Own ix (gName i) := by
 intro x σ0 σ H Q a q
 refine ⟨q, by rw [List.length_set]; exact a.1, fun k j hk => ?_⟩
 rw [List.getElem?_set_ne]
 · exact a.2 k j hk
 · rintro rfl
   rw [h] at hk; cases hk
theorem gmono_name {i : Nat} : GMono (gName i) := fun x σ H Q Q' h q => h _ _ q
theorem owns_nil {ix : List (Option Nat)} : Owns ix gNil := by
 intro x σ0 σ H Q a q
 exact ⟨q.1, q.2, a⟩
theorem owns_cons {ix : List (Option Nat)} {t : TG} {u : TGs} (m : GMono t) (h1 : Own ix t) (h2 : Owns ix u) : Owns ix (gCons t u) := by
 intro x σ0 σ H Q a q
 obtain ⟨v, r, e, q⟩ := q
 exact ⟨v, r, e, m _ _ _ _ _ (fun σ1 H1 q1 => h2 _ σ0 _ _ _ q1.2 q1.1) (h1 _ σ0 _ _ _ a q)⟩
theorem own_tup {ix : List (Option Nat)} {K : PySem.W.Frag} {n : Nat} {t : TGs} (h : Owns ix t) : Own ix (gTup K n t) := by
 intro x σ0 σ H Q a q
 obtain ⟨p, xs, e1, e2, e3, q⟩ := q
 exact ⟨p, xs, e1, e2, e3, h _ σ0 _ _ _ a q⟩
theorem comp_core {elt iter tg : Expr} {ifs : List Expr} {pos posc : Pos} {wi : TI} {g : TG} {tt : TT} {te : TE} (use : Option (Value → Sem Unit)) (QQ : Value → Shared → Prop) (hc : X.calm = true) (hi : PI X tg iter wi) (S : BlkScope X N' ix scope) (ow : Own ix g)
   (hg : ∀ C s H fp pins, PG (blk X N' scope C s H fp pins) tg g) (ht : ∀ C s H fp pins, PTs (blk X N' scope C s H fp pins) ifs tt) (he : ∀ C s H fp pins, PE (blk X N' scope C s H fp pins) elt te)
   (hs : ∀ x, foldedSetIterable iter X.env x = pure x) (pins : List (Addr × Obj)) (s : Shared) (σ : St) (H : Hp) (Q : VK) (I : Inv X pins σ H s) (h : tComp wi ix g tt te σ H Q)
   (hpost : ∀ (C D : Addr) (H5 : Hp) (s4 : Shared) (m : Str → Option Value), s4.heap.Ns C m → FpOk X pins H5 C → (∀ h', Heap.SameBut C s4.heap h' → Inv X pins σ H5 { s4 with heap := h' }) → Q (.ref D) H5 →
     compPost (model X.prog X.w) X.A X.xe use QQ (.ref D) C (.ok .next) s4) :
   wpAny (model X.prog X.w) X.A (comprehension (.ListComp elt [⟨tg, iter, ifs, 0⟩] scope pos) scope X.env posc (newList []) false (eval iter X.env) use) QQ X.xe s := by
 refine wpAny_comprehension_free (use := use) rfl hs (closureFor_eq scope X.env fun y hy hk => I.ok.has y.1 (S.frees y hy hk)) S.kind S.locs (thn (hi pins s σ H _ I h) fun v s1 h1 => thn h1 fun itv s2 h2 => ?_)
 obtain ⟨it, fp, tn, J, H2, e, I2, T, st2, f2, W, ⟨m0, w0⟩, turn⟩ := h2
 subst e
 have hfo : ∀ b ∈ fp, ∃ o, s2.heap.get? b = some o := fun b hb => let ⟨o, e, _⟩ := T.obj _ _ st2 b hb; ⟨o, e⟩
 refine wpAny_newObj_type (wpAny_newBlockEnv (fun h₁ eh₁ => ?_))
 dsimp only at eh₁ ⊢
 generalize hH2 : s2.heap.push { cls := .type "list", dict := none, data := .seq ([] : List Value).toArray } = Hp2 at eh₁ ⊢
 have hC : Hp2.objs.size = s2.heap.objs.size + 1 := by rw [← hH2, Heap.size_push]
 have old1 : ∀ b o, Hp2.get? b = some o → h₁.get? b = some o := fun b o e => by rw [eh₁]; exact pushCells_keeps _ _ _ _ (Heap.get?_push_of_some _ e)
 have hns : h₁.Ns Hp2.objs.size (fun _ => none) := by rw [eh₁]; exact (Heap.Ns.new Hp2 (.type "dict")).keeps (pushCells_keeps _ _)
 have hown : ∀ x c, (x, c) ∈ cellsFrom (Hp2.objs.size + 1) scope.names [] → h₁.IsCell c none := fun x c hm => by
   have ok := cellsFrom_ok scope.names (Hp2.push { cls := .type "dict", data := .dict #[] }) (Hp2.objs.size + 1) [] ⟨fun _ _ hm => (nomatch hm), List.Pairwise.nil⟩ (by rw [Heap.size_push]; exact Nat.le_refl _)
   rw [Heap.size_push] at ok
   rw [eh₁]
   exact (ok.empty x c hm).1
 generalize hCC : Hp2.objs.size = C at hns hown hC ⊢
 generalize hDD : s2.heap.objs.size = D at hC
 have hCge : s2.heap.objs.size ≤ C := by rw [hDD, hC]; exact Nat.le_succ _
 have hDge : s2.heap.objs.size ≤ D := Nat.le_of_eq hDD
 have hDC : D ≠ C := by rw [hC]; exact Nat.ne_of_lt (Nat.lt_succ_self _)
 have hDlt : D < C := by rw [hC]; exact Nat.lt_succ_self _
 have old : ∀ b o, s2.heap.get? b = some o → h₁.get? b = some o := fun b o e => old1 b o (hH2 ▸ Heap.get?_push_of_some _ e)
 have hacc : h₁.get? D = some { cls := .type "list", data := .seq ([] : List Value).toArray 0 } := old1 _ _ (hH2 ▸ hDD ▸ Heap.get?_push_size _ rfl)
 have stat : ∀ {H' : Hp}, (∀ b ∈ fp, H' b = none) → ∀ b ∈ fp, FpOk (blk X N' scope C s2 H2 fp pins) [] H' b := fun hn b hb => by
   obtain ⟨f0, f1, f2, f3, f4, f5⟩ := f2 b hb
   obtain ⟨o, ho⟩ := hfo b hb
   refine ⟨hn b hb, Nat.ne_of_lt (Nat.lt_of_lt_of_le (Heap.lt_size ho) hCge), fun z => ?_, .inl hb, fun x c e => ?_, fun p hp => ?_⟩
   · rcases List.mem_cons.mp (I2.stkSub _ z) with e | e
     · exact f1 e
     · exact f2 e
   · rcases blk_cells I2 S C e with ⟨a1, a2⟩ | ⟨a1, a2⟩
     · exact Nat.ne_of_gt (Nat.lt_trans (Nat.lt_of_lt_of_le (Heap.lt_size ho) hCge) a1)
     · exact f4 x c a2
   · have : p ∈ (X.pn ++ pins) ++ [] := hp
     exact f5 p (by simpa using this)
 have hDs : D ∉ (blk X N' scope C s2 H2 fp pins).fs := fun hb => by
   rcases List.mem_cons.mp (I2.stkSub _ hb) with e | e
   · rw [e] at hDge
     exact absurd (Nat.lt_of_lt_of_le I2.lt hDge) (Nat.lt_irrefl _)
   · exact I2.nofs hDge e
 have loop : ∀ s₃ : Shared, s₃ = { s2 with heap := h₁ } →
     codeAny (model X.prog X.w) X.A (.compLoop (.ListComp elt [⟨tg, iter, ifs, 0⟩] scope pos) 0 (.ref it) (.ref D) (compEnvC scope (cellsFrom (C + 1) scope.names [] ++ cloOf X.env scope.names []) C X.env))
       (compPost (model X.prog X.w) X.A X.xe use QQ (.ref D) C) s₃ := by
   rintro s₃ rfl
   refine codeAny_compLoop_gen (fun n s' => ∃ i ys its cap H', Inv (blk X N' scope C s2 H2 fp pins) [] (pick ix σ) H' s' ∧ tn i s'.heap ∧ (∀ b ∈ fp, H' b = none) ∧ H' D = none ∧
       s'.heap.get? D = some { cls := .type "list", data := .seq (its : List Value).toArray cap } ∧ Vals ys its ∧ W i n ys H') ?_ m0
     ⟨0, [], [], 0, H2, blk_start I2 f2 S hCge hfo hns old hown, T.keep _ _ _ st2 fun b _ o e => old b o e, fun b hb => (f2 b hb).1, I2.hok.fresh hDge, hacc, .nil, w0⟩
   rintro n s3 ⟨i, ys, its, cap, H3, I3, st3, fr3, hD3, ho3, r3, w3⟩
   have I3d : Inv (blk X N' scope C s2 H2 fp pins) [(D, { cls := .type "list", data := .seq its.toArray cap })] (pick ix σ) H3 s3 := I3.pins_of fun p hp => by
     have e : p = (D, { cls := .type "list", data := .seq its.toArray cap }) := by simpa using hp
     subst e
     exact ⟨ho3, hD3, hDC, hDs, fun v z => nomatch z⟩
   have statD : ∀ {H' : Hp}, (∀ b ∈ fp, H' b = none) → ∀ b ∈ fp, FpOk (blk X N' scope C s2 H2 fp pins) [(D, ({ cls := .type "list", data := .seq its.toArray cap } : Obj))] H' b := fun hn b hb => by
     obtain ⟨f0, f1, f2, f3, f4, f5⟩ := stat hn b hb
     obtain ⟨o, ho⟩ := hfo b hb
     refine ⟨f0, f1, f2, f3, f4, fun p hp => ?_⟩
     rcases List.mem_append.mp hp with z | z
     · exact f5 p (List.mem_append_left _ z)
     · have e : p = (D, ({ cls := .type "list", data := .seq its.toArray cap } : Obj)) := by simpa using z
       subst e
       exact Nat.ne_of_gt (Nat.lt_of_lt_of_le (Heap.lt_size ho) hDge)
   rcases turn i n ys H3 w3 with ⟨stop, hz, qn⟩ | ⟨go, hz, step⟩
   · refine wpAny_noRaise (thn (T.done (blk X N' scope C s2 H2 fp pins) rfl rfl rfl hc i _ s3 (pick ix σ) H3 (fun _ _ => False) I3d (statD fr3) st3 stop) fun r s4 ⟨hr, I4⟩ => ?_)
     subst hr
     obtain ⟨e4, n4, _⟩ := I4.pin (D, _) (List.mem_append_right _ (List.mem_singleton.mpr rfl))
     obtain ⟨m, hn, _⟩ := id I4.loc
     have hC4 : H3 C = none := I4.free
     exact hpost C D _ _ m hn (I2.fpOk hCge (by rw [upd_ne (Ne.symm hDC)]; exact hC4)) (fun h' sb => blk_end I2 f2 hCge hDge hDC (Inv.unpinned (pl := [(D, _)]) (pins := []) I4) n4 e4 r3 hz sb) (qn D n4)
   · refine wpAny_noRaise (thn (T.item (blk X N' scope C s2 H2 fp pins) rfl rfl rfl hc i _ s3 (pick ix σ) H3 (fun _ _ => False) I3d (statD fr3) st3 go) fun r s4 ⟨u, hr, h4⟩ => ?_)
     subst hr
     refine wpAny_noRaise (thn h4 fun _ s5 ⟨x, H5, I5, r5, y5, st5, fr5⟩ => ?_)
     have I5' := I5.pinned (statD fr5) (T.obj _ _ st5)
     have again : ∀ {σ7 : St} {H7 : Hp} {s7 : Shared}, Inv (blk X N' scope C s2 H2 fp pins) ([(D, ({ cls := .type "list", data := .seq its.toArray cap } : Obj))] ++ pinsAt fp s5.heap) σ7 H7 s7 →
         H7 D = none ∧ s7.heap.get? D = some { cls := .type "list", data := .seq its.toArray cap } ∧ tn (i + 1) s7.heap ∧ ∀ b ∈ fp, H7 b = none := fun {σ7 H7 s7} I7 => by
       obtain ⟨e7, n7, _⟩ := I7.pin (D, _) (List.mem_append_right _ (List.mem_append_left _ (List.mem_singleton.mpr rfl)))
       refine ⟨n7, e7, T.keep _ _ _ st5 fun b hb o e => (I7.pin (b, o) (List.mem_append_right _ (List.mem_append_right _ (mem_pinsAt hb e)))).1, fun b hb => ?_⟩
       obtain ⟨o, e, d⟩ := T.obj _ _ st5 b hb
       exact (I7.pin (b, o) (List.mem_append_right _ (List.mem_append_right _ (mem_pinsAt hb e)))).2.1
     have forget : ∀ {σ7 : St} {H7 : Hp} {s7 : Shared}, Inv (blk X N' scope C s2 H2 fp pins) ([(D, ({ cls := .type "list", data := .seq its.toArray cap } : Obj))] ++ pinsAt fp s5.heap) σ7 H7 s7 →
         (∀ (k : Nat) v, (pick ix σ)[k]? = some (some v) → σ7[k]? = some (some v)) → σ7.length = (pick ix σ).length → Inv (blk X N' scope C s2 H2 fp pins) [] (pick ix σ) H7 s7 := fun {σ7 H7 s7} I7 hk hl =>
       (I7.pins_of (pins' := []) fun _ z => nomatch z).weak hl.symm hk
     refine wpAny_noRaise (thn (hg C s2 H2 fp pins _ s5 (pick ix σ) H5 x u _ I5' r5 (ow _ _ _ _ _ ⟨rfl, fun _ _ _ => rfl⟩ (step x H5 y5))) fun _ s6 ⟨σ6, H6, I6, q6, l6, k6⟩ => ?_)
     have back : ∀ (k : Nat) v, (pick ix σ)[k]? = some (some v) → σ6[k]? = some (some v) := fun k v e => by
       obtain ⟨j, e1, _⟩ := pick_get e
       rw [k6 k j e1]; exact e
     refine wpAny_noRaise (thn (ht C s2 H2 fp pins _ s6 σ6 H6 _ I6 q6) fun ok s7 ⟨H7, I7, q7⟩ => ?_)
     cases ok with
     | false =>
       rw [if_neg Bool.false_ne_true]
       rw [if_neg Bool.false_ne_true] at q7
       obtain ⟨m', hm, w7⟩ := q7
       obtain ⟨a1, a2, a3, a4⟩ := again I7
       exact ⟨m', hm, i + 1, ys, its, cap, H7, forget I7 back l6, a3, a4, a1, a2, r3, w7⟩
     | true =>
       rw [if_pos rfl]
       rw [if_pos rfl] at q7
       refine wpAny_noRaise (thn (he C s2 H2 fp pins _ s7 σ6 H7 _ I7 q7) fun z s8 ⟨y, H8, I8, r8, m', hm, w8⟩ => ?_)
       obtain ⟨a1, a2, a3, a4⟩ := again I8
       have hl := r3.length
       refine wpAny_noRaise (wpAny_list_append_plain ⟨_, a2⟩ (fun h9 ⟨cap9, p9⟩ sb9 => ?_) (by rw [List.size_toArray, ← hl]; exact Nat.le_of_lt hz))
       have I9 : Inv (blk X N' scope C s2 H2 fp pins) [] (pick ix σ) H8 { s8 with heap := h9 } :=
         (forget I8 back l6).turned (t' := s8.toks) (it := D) (fun b o hb e => sb9.extBut b o hb e) a1 hDC (.inr hDge) (fun x c e => by
           rcases blk_cells I2 S C e with ⟨a1, a2⟩ | ⟨a1, a2⟩
           · exact Nat.ne_of_gt (Nat.lt_trans hDlt a1)
           · obtain ⟨v, z⟩ := I2.cell x c a2
             exact Nat.ne_of_lt (Nat.lt_of_lt_of_le z.lt hDge)) (fun p hp => by
           have hp' : p ∈ (X.pn ++ pins) ++ [] := hp
           exact Nat.ne_of_lt (Nat.lt_of_lt_of_le (Heap.lt_size (I2.pin p (by simpa using hp')).1) hDge))
       refine ⟨m', hm, i + 1, ys ++ [y], its ++ [z], cap9, H8, I9, ?_, a4, a1, ?_, r3.append (.cons r8 .nil), w8⟩
       · refine T.keep _ _ _ a3 fun b hb o e => sb9.extBut b o ?_ e
         obtain ⟨o', ho'⟩ := hfo b hb
         exact Nat.ne_of_lt (Nat.lt_of_lt_of_le (Heap.lt_size ho') hDge)
       · rw [p9]; simp
 exact codeAny_compStart_list (loop _ rfl) (T.self _ _ _ _ _ (T.keep _ _ _ st2 fun b _ o e => old b o e) (loop _ rfl))
theorem pe_comp {elt iter tg : Expr} {ifs : List Expr} {pos : Pos} {wi : TI} {g : TG} {tt : TT} {te : TE} (hc : X.calm = true) (hi : PI X tg iter wi) (S : BlkScope X N' ix scope) (ow : Own ix g)
   (hg : ∀ C s H fp pins, PG (blk X N' scope C s H fp pins) tg g) (ht : ∀ C s H fp pins, PTs (blk X N' scope C s H fp pins) ifs tt) (he : ∀ C s H fp pins, PE (blk X N' scope C s H fp pins) elt te)
   (hs : ∀ x, foldedSetIterable iter X.env x = pure x := by intro _; rfl) :
   PE X (.ListComp elt [⟨tg, iter, ifs, 0⟩] scope pos) (tComp wi ix g tt te) := by
 intro pins s σ H Q I h
 rw [eval_ListComp]
 exact comp_core none (EP X pins σ Q) hc hi S ow hg ht he hs pins s σ H Q I h fun C D H5 s4 m hn _ inv q => ⟨m, hn, fun h' sb => ⟨.ref D, H5, inv h' sb, rfl, q⟩⟩
theorem ps_setC {i : Nat} {x : Str} {elt iter tg : Expr} {ifs : List Expr} {pos pos' spos : Pos} {wi : TI} {g : TG} {tt : TT} {te : TE} (hN : X.N.Nodup) (hi' : X.N[i]? = some x) (hx : Loc X.env.scope x) (hc : X.calm = true) (hi : PI X tg iter wi) (S : BlkScope X N' ix scope) (ow : Own ix g)
   (hg : ∀ C s H fp pins, PG (blk X N' scope C s H fp pins) tg g) (ht : ∀ C s H fp pins, PTs (blk X N' scope C s H fp pins) ifs tt) (he : ∀ C s H fp pins, PE (blk X N' scope C s H fp pins) elt te)
   (hsw : swapsWith (.ListComp elt [⟨tg, iter, ifs, 0⟩] scope pos) (some (.Name x pos')) spos.line X.env = pure true)
   (hs : ∀ x, foldedSetIterable iter X.env x = pure x := by intro _; rfl) (hf : X.fn x = true ∨ X.env.scope.names.lookup x = some .local := by first | exact .inl rfl | exact .inr rfl | assumption) :
   PS X (.Assign [.Name x pos'] (.ListComp elt [⟨tg, iter, ifs, 0⟩] scope pos) spos) (tAsg (tComp wi ix g tt te) (gName i)) := by
 intro pins s σ H D I h
 rw [exec_Assign_Name_used _ _ _ _ hsw]
 refine wpAny_bind (wpAny_standAt (wpAny_bind ?_))
 show wpAny _ X.A (do let _ ← comprehension (.ListComp elt [⟨tg, iter, ifs, 0⟩] scope pos) scope X.env _ (newList []) false (eval iter X.env) (some (assign (.Name x pos') X.env))) _ _ s
 refine wpAny_bind (thn (comp_core (some (assign (.Name x pos') X.env)) (fun _ s' => SP X pins D .next s') hc hi S ow hg ht he hs pins s σ H _ I h ?_) fun _ s' hq => wpAny_pure (wpAny_pure hq))
 intro C D2 H5 s4 m hn fp inv q
 have I5 : Inv X pins σ H5 s4 := inv s4.heap (Heap.SameBut.refl _ _)
 refine wpAny_assign_Name (store_ok2 I5 hN hi' hx (v := .ref D2) rfl (fun s5 I6 ⟨a, sb, ha⟩ => ?_) hf)
 obtain ⟨f0, f1, f2, f3, f4, f5⟩ := fp
 have hac : a ≠ C := by
   rcases ha with rfl | ha
   · exact Ne.symm f1
   · exact f4 x a ha
 refine ⟨m, hn.sameBut sb (Ne.symm hac), fun h' sb' => ⟨_, H5, I6.turned (t' := s5.toks) (it := C) (fun b o hb e => sb'.extBut b o hb e) f0 f1 f3 f4 f5, q⟩⟩
end L2
namespace L2
open PySem PySem.Spec PyProof.Rows
noncomputable def relabelS (scope outer : Scope) : Scope :=
 { scope with names := scope.names.map fun (n, k) => if (k == .free && outer.kind == .function && outer.names.lookup n == some .cell) then (n, .cell) else (n, k) }
theorem relabel_look {scope : Scope} {env : Env} {x : Str} {k : NameKind} (h : (relabel scope env).names.lookup x = some k) (hk : k = .cell ∨ k = .free) : (x, NameKind.free) ∈ scope.names ∨ (x, NameKind.cell) ∈ scope.names := by
 have hm : (x, k) ∈ (relabel scope env).names := PySem.mem_of_lookup h
 unfold relabel at hm
 obtain ⟨⟨n, k0⟩, h1, h2⟩ := List.mem_map.mp hm
 dsimp only at h2
 split at h2
 · rename_i hc
   have e1 : n = x := (Prod.mk.inj h2).1
   subst e1
   have : k0 = NameKind.free := by
     simp only [Bool.and_eq_true, beq_iff_eq] at hc
     exact hc.1.1
   rw [this] at h1; exact .inl h1
 · have e1 := Prod.mk.inj h2
   obtain ⟨rfl, rfl⟩ := e1
   rcases hk with rfl | rfl
   · exact .inr h1
   · exact .inl h1
noncomputable def blkB (outer : Scope) (N N' : List Str) (ix : List (Option Nat)) (scope : Scope) : Bool :=
 decide (scope.kind = .function) && decide (outer.kind = .function) && scope.names.all (fun y => decide (y.2 = .local → scope.names.lookup y.1 = some .local)) &&
 scope.names.all (fun y => decide (y.2 = .free → (outer.names.lookup y.1 = some .cell ∨ outer.names.lookup y.1 = some .free))) && decide (ix.length = N'.length) &&
 (List.range ix.length).all fun i => match ix[i]?, N'[i]? with
   | some (some j), some x => decide (N[j]? = some x) && decide ((x, NameKind.free) ∈ scope.names) && !ownB scope.names x &&
     decide ((relabelS scope outer).names.lookup x = outer.names.lookup x)
   | _, _ => true
theorem blk_scope {X : Cx} {outer scope : Scope} {N N' : List Str} {ix : List (Option Nat)} (h : blkB outer N N' ix scope = true) (ho : X.env.scope = outer) (hN : X.N = N) : BlkScope X N' ix scope := by
 unfold blkB at h
 simp only [Bool.and_eq_true, decide_eq_true_eq, List.all_eq_true] at h
 obtain ⟨⟨⟨⟨⟨h1, h2⟩, h4⟩, h5⟩, h6⟩, h7⟩ := h
 subst ho hN
 refine ⟨h1, h4, h5, fun x k hl hk => relabel_look hl hk, h6, fun i j x e1 e2 => ?_⟩
 have hi : i < ix.length := (List.getElem?_eq_some_iff.mp e1).1
 have q := h7 i (List.mem_range.mpr hi)
 rw [e1, e2] at q
 simp only [Bool.and_eq_true, decide_eq_true_eq, Bool.not_eq_true'] at q
 exact ⟨q.1.1.1, q.1.1.2, q.1.2, q.2⟩
theorem PE.imp {X : Cx} {e : Expr} {t t' : TE} (h : PE X e t) (f : ∀ σ H Q, t' σ H Q → t σ H Q) : PE X e t' := fun pins s σ H Q I q => h pins s σ H Q I (f σ H Q q)
theorem PT.imp {X : Cx} {e : Expr} {t t' : TT} (h : PT X e t) (f : ∀ σ H Q, t' σ H Q → t σ H Q) : PT X e t' := fun pins s σ H Q I q => h pins s σ H Q I (f σ H Q q)
theorem PA.imp {X : Cx} {e : List Expr} {t t' : TA} (h : PA X e t) (f : ∀ σ H Q, t' σ H Q → t σ H Q) : PA X e t' := fun pos pins s σ H Q I q => h pos pins s σ H Q I (f σ H Q q)
theorem PS.imp {X : Cx} {e : Stmt} {t t' : TS} (h : PS X e t) (f : ∀ D σ H, t' D σ H → t D σ H) : PS X e t' := fun pins s σ H D I q => h pins s σ H D I (f D σ H q)
theorem PSs.imp {X : Cx} {e : List Stmt} {t t' : TS} (h : PSs X e t) (f : ∀ D σ H, t' D σ H → t D σ H) : PSs X e t' := fun pins s σ H D I q => h pins s σ H D I (f D σ H q)
end L2
namespace L2
open PySem PySem.Spec PyProof.Rows
inductive T where
 | non | bl (b : Bool) | int (i : Int) | str (x : Str) | tup (ts : List T) | adr (a : Addr)
 /-- a list that never changes (the script; a module's own) -/
 | rd (ts : List T)
 /-- a dict with int keys that never changes behind its display -/
 | dic (ks : List Int) (ts : List T)
noncomputable def FzL (K : PySem.W.Frag) (H : Hp) (a : Addr) (xs : List V) : Prop :=
 (∃ o, H a = some (.frz o (.lst xs))) ∨
   ∃ (o : Obj) (its : Array Value) (n : Nat), K.lookup a = some o ∧ o.cls = .type "list" ∧ o.dict = none ∧ o.data = .seq its n ∧ its.size ≤ sizeLine ∧ Vals xs its.toList
theorem FzL.sq {K : PySem.W.Frag} {H : Hp} {a : Addr} {xs : List V} (h : FzL K H a xs) : SqL K H a xs := by
 rcases h with ⟨o, h⟩ | h
 · exact .inl (.inr ⟨o, h⟩)
 · exact .inr h
mutual
noncomputable def Rep (K : PySem.W.Frag) (H : Hp) : V → T → Prop
 | v, .non => v = .non
 | v, .bl b => v = .bl b
 | v, .int i => v = .int i
 | v, .str x => v = .str x
 | v, .adr a => v = .ref a
 | v, .tup ts => ∃ a xs, v = .ref a ∧ SqT K H a xs ∧ Reps K H xs ts
 | v, .rd ts => ∃ a xs, v = .ref a ∧ FzL K H a xs ∧ Reps K H xs ts
 | v, .dic _ _ => False
noncomputable def Reps (K : PySem.W.Frag) (H : Hp) : List V → List T → Prop
 | vs, [] => vs = []
 | vs, t :: ts => ∃ v r, vs = v :: r ∧ Rep K H v t ∧ Reps K H r ts
end
structure Kp (K : PySem.W.Frag) (H H' : Hp) : Prop where
 tup : ∀ a xs, SqT K H a xs → SqT K H' a xs
 frz : ∀ a o u, H a = some (.frz o u) → H' a = some (.frz o u)
theorem Kp.refl {K : PySem.W.Frag} {H : Hp} : Kp K H H := ⟨fun _ _ h => h, fun _ _ _ h => h⟩
theorem Kp.trans {K : PySem.W.Frag} {H H1 H2 : Hp} (a : Kp K H H1) (b : Kp K H1 H2) : Kp K H H2 := ⟨fun _ _ h => b.tup _ _ (a.tup _ _ h), fun _ _ _ h => b.frz _ _ _ (a.frz _ _ _ h)⟩
structure KpW (K : PySem.W.Frag) (H H' : Hp) : Prop where
 tup : ∀ a xs, SqT K H a xs → SqT K H' a xs
 frz : ∀ a o u, H a = some (.frz o u) → H' a = some (.frz o u)
theorem Kp.w {K : PySem.W.Frag} {H H' : Hp} (k : Kp K H H') : KpW K H H' := ⟨k.tup, k.frz⟩
theorem KpW.fz {K : PySem.W.Frag} {H H' : Hp} {a : Addr} {xs : List V} (k : KpW K H H') (h : FzL K H a xs) : FzL K H' a xs := by
 rcases h with ⟨o, h⟩ | h
 · exact .inl ⟨o, k.frz _ _ _ h⟩
 · exact .inr h
mutual
theorem Rep.kw {K : PySem.W.Frag} {H H' : Hp} (k : KpW K H H') : ∀ (v : V) (t : T), Rep K H v t → Rep K H' v t
 | v, .non, h => h
 | v, .bl b, h => h
 | v, .int i, h => h
 | v, .str x, h => h
 | v, .adr a, h => h
 | v, .tup ts, h => by
   unfold Rep at h ⊢
   obtain ⟨a, xs, e, h1, h2⟩ := h
   exact ⟨a, xs, e, k.tup _ _ h1, Reps.kw k xs ts h2⟩
 | v, .rd ts, h => by
   unfold Rep at h ⊢
   obtain ⟨a, xs, e, h1, h2⟩ := h
   exact ⟨a, xs, e, k.fz h1, Reps.kw k xs ts h2⟩
 | v, .dic ks ts, h => by
   unfold Rep at h; exact h.elim
theorem Reps.kw {K : PySem.W.Frag} {H H' : Hp} (k : KpW K H H') : ∀ (vs : List V) (ts : List T), Reps K H vs ts → Reps K H' vs ts
 | vs, [], h => h
 | vs, t :: ts, h => by
   unfold Reps at h ⊢
   obtain ⟨v, r, e, h1, h2⟩ := h
   exact ⟨v, r, e, Rep.kw k v t h1, Reps.kw k r ts h2⟩
end
theorem Rep.kp {K : PySem.W.Frag} {H H' : Hp} (k : Kp K H H') (v : V) (t : T) (h : Rep K H v t) : Rep K H' v t := Rep.kw k.w v t h
theorem Reps.kp {K : PySem.W.Frag} {H H' : Hp} (k : Kp K H H') (vs : List V) (ts : List T) (h : Reps K H vs ts) : Reps K H' vs ts := Reps.kw k.w vs ts h
section
variable {K : PySem.W.Frag} {H : Hp}
theorem Reps.cons {v : V} {t : T} {vs : List V} {ts : List T} (h : Rep K H v t) (r : Reps K H vs ts) : Reps K H (v :: vs) (t :: ts) := by
 unfold Reps; exact ⟨v, vs, rfl, h, r⟩
theorem Reps.nil : Reps K H [] [] := by unfold Reps; rfl
theorem Reps.length : ∀ {vs : List V} {ts : List T}, Reps K H vs ts → vs.length = ts.length
 | vs, [], h => by unfold Reps at h; subst h; rfl
 | vs, t :: ts, h => by
   unfold Reps at h
   obtain ⟨v, r, rfl, _, h2⟩ := h
   rw [List.length_cons, List.length_cons, Reps.length h2]
theorem Reps.get : ∀ {vs : List V} {ts : List T} {i : Nat} {t : T}, Reps K H vs ts → ts[i]? = some t → ∃ v, vs[i]? = some v ∧ Rep K H v t
 | _, [], _, _, _, e => by simp at e
 | vs, t :: ts, 0, u, h, e => by
   unfold Reps at h
   obtain ⟨v, r, rfl, h1, _⟩ := h
   simp at e; subst e
   exact ⟨v, rfl, h1⟩
 | vs, t :: ts, i + 1, u, h, e => by
   unfold Reps at h
   obtain ⟨v, r, rfl, _, h2⟩ := h
   obtain ⟨w, q1, q2⟩ := Reps.get (i := i) h2 (by simpa using e)
   exact ⟨w, by simpa using q1, q2⟩
theorem Reps.append : ∀ {vs : List V} {ts : List T} {ws : List V} {us : List T}, Reps K H vs ts → Reps K H ws us → Reps K H (vs ++ ws) (ts ++ us)
 | vs, [], _, _, h, g => by unfold Reps at h; subst h; exact g
 | vs, t :: ts, _, _, h, g => by
   unfold Reps at h
   obtain ⟨v, r, rfl, h1, h2⟩ := h
   exact .cons h1 (Reps.append h2 g)
theorem Reps.take : ∀ {vs : List V} {ts : List T} (n : Nat), Reps K H vs ts → Reps K H (vs.take n) (ts.take n)
 | _, _, 0, _ => .nil
 | vs, [], n + 1, h => by unfold Reps at h; subst h; exact .nil
 | vs, t :: ts, n + 1, h => by
   unfold Reps at h
   obtain ⟨v, r, rfl, h1, h2⟩ := h
   exact .cons h1 (Reps.take n h2)
theorem Reps.drop : ∀ {vs : List V} {ts : List T} (n : Nat), Reps K H vs ts → Reps K H (vs.drop n) (ts.drop n)
 | _, _, 0, h => h
 | vs, [], n + 1, h => by unfold Reps at h; subst h; exact .nil
 | vs, t :: ts, n + 1, h => by
   unfold Reps at h
   obtain ⟨v, r, rfl, h1, h2⟩ := h
   exact Reps.drop n h2
theorem Reps.set {v : V} {t : T} (g : Rep K H v t) : ∀ {vs : List V} {ts : List T} (n : Nat), Reps K H vs ts → Reps K H (vs.set n v) (ts.set n t)
 | vs, [], n, h => by unfold Reps at h; subst h; exact .nil
 | vs, u :: ts, 0, h => by
   unfold Reps at h
   obtain ⟨v, r, rfl, h1, h2⟩ := h
   exact .cons g h2
 | vs, u :: ts, n + 1, h => by
   unfold Reps at h
   obtain ⟨v, r, rfl, h1, h2⟩ := h
   exact .cons h1 (Reps.set g n h2)
theorem Reps.ints : ∀ {vs : List V} {ns : List Int}, Reps K H vs (ns.map T.int) → vs = ns.map V.int
 | vs, [], h => by unfold Reps at h; exact h
 | vs, n :: ns, h => by
   have h' : Reps K H vs (T.int n :: ns.map T.int) := h
   unfold Reps at h'
   obtain ⟨v, r, rfl, h1, h2⟩ := h'
   unfold Rep at h1
   subst h1
   rw [List.map_cons, Reps.ints h2]
theorem Reps.of_ints : ∀ (ns : List Int), Reps K H (ns.map V.int) (ns.map T.int)
 | [] => .nil
 | n :: ns => .cons (by unfold Rep; rfl) (Reps.of_ints ns)
end
inductive MO where
 /-- a list that may be written -/
 | lst (ts : List T)
 /-- a dict that may be written: keys whole numbers or texts -/
 | dk (kvs : List (Key × T))
 /-- the same, keys tuples of such -/
 | dt (kvs : List (List Key × T))
 /-- the same, walked: it may not be written any more -/
 | fz (kvs : List (List Key × T))
noncomputable abbrev MH := Addr → Option MO
noncomputable def updM (M : MH) (a : Addr) (o : MO) : MH := fun b => if b = a then some o else M b
theorem updM_same {M : MH} {a : Addr} {o : MO} : updM M a o a = some o := if_pos rfl
theorem updM_ne {M : MH} {a b : Addr} {o : MO} (h : b ≠ a) : updM M a o b = M b := if_neg h
noncomputable def Sub (M M' : MH) : Prop := ∀ a o, M a = some o → M' a = some o
theorem Sub.refl {M : MH} : Sub M M := fun _ _ h => h
theorem Sub.trans {M M1 M2 : MH} (a : Sub M M1) (b : Sub M1 M2) : Sub M M2 := fun _ _ h => b _ _ (a _ _ h)
theorem Sub.new {M : MH} {p : Addr} {o : MO} (h : M p = none) : Sub M (updM M p o) := fun b u q => by
 rw [updM_ne]
 · exact q
 · rintro rfl
   rw [h] at q; cases q
noncomputable def KRep {κ : Type} (K : PySem.W.Frag) (H : Hp) : List (κ × V) → List (κ × T) → Prop
 | [], [] => True
 | p :: r, q :: u => p.1 = q.1 ∧ Rep K H p.2 q.2 ∧ KRep K H r u
 | _, _ => False
theorem KRep.kp {κ : Type} {K : PySem.W.Frag} {H H' : Hp} (k : Kp K H H') : ∀ {xs : List (κ × V)} {kvs : List (κ × T)}, KRep K H xs kvs → KRep K H' xs kvs
 | [], [], _ => trivial
 | p :: r, q :: u, h => ⟨h.1, Rep.kp k _ _ h.2.1, KRep.kp k h.2.2⟩
 | [], q :: u, h => h.elim
 | p :: r, [], h => h.elim
theorem KRep.length {κ : Type} {K : PySem.W.Frag} {H : Hp} : ∀ {xs : List (κ × V)} {kvs : List (κ × T)}, KRep K H xs kvs → xs.length = kvs.length
 | [], [], _ => rfl
 | p :: r, q :: u, h => by rw [List.length_cons, List.length_cons, KRep.length h.2.2]
 | [], q :: u, h => h.elim
 | p :: r, [], h => h.elim
noncomputable def MOk (K : PySem.W.Frag) (H : Hp) (a : Addr) : MO → Prop
 | .lst ts => ∃ xs, H a = some (.lst xs) ∧ Reps K H xs ts
 | .dk kvs => ∃ xs, H a = some (.dK xs) ∧ KRep K H xs kvs
 | .dt kvs => ∃ xs, H a = some (.dT xs) ∧ KRep K H xs kvs
 | .fz kvs => ∃ o xs, H a = some (.frz o (.dT xs)) ∧ KRep K H xs kvs
noncomputable def HR (K : PySem.W.Frag) (H : Hp) (M : MH) : Prop := ∀ a o, M a = some o → MOk K H a o
theorem HR.sub {K : PySem.W.Frag} {H : Hp} {M M' : MH} (h : HR K H M') (s : Sub M M') : HR K H M := fun a o e => h a o (s a o e)
noncomputable abbrev En := List (Option T)
noncomputable def RhoR (K : PySem.W.Frag) (σ : St) (H : Hp) (ρ : En) : Prop := σ.length = ρ.length ∧ ∀ (i : Nat) (t : T), ρ[i]? = some (some t) → ∃ v, σ[i]? = some (some v) ∧ Rep K H v t
theorem RhoR.kp {K : PySem.W.Frag} {σ : St} {H H' : Hp} {ρ : En} (h : RhoR K σ H ρ) (k : Kp K H H') : RhoR K σ H' ρ := ⟨h.1, fun i t e => let ⟨v, a, b⟩ := h.2 i t e; ⟨v, a, Rep.kp k _ _ b⟩⟩
theorem RhoR.set {K : PySem.W.Frag} {σ : St} {H : Hp} {ρ : En} {v : V} {t : T} (h : RhoR K σ H ρ) (i : Nat) (r : Rep K H v t) : RhoR K (σ.set i (some v)) H (ρ.set i (some t)) := by
 refine ⟨by rw [List.length_set, List.length_set, h.1], fun j u e => ?_⟩
 by_cases hj : i = j
 · subst hj
   have hi : i < ρ.length := by
     have := (List.getElem?_eq_some_iff.mp e).1
     rwa [List.length_set] at this
   rw [List.getElem?_set_self hi] at e
   cases e
   exact ⟨v, List.getElem?_set_self (show i < List.length σ by rw [h.1]; exact hi), r⟩
 · rw [List.getElem?_set_ne hj] at e
   rw [List.getElem?_set_ne hj]
   exact h.2 j u e
noncomputable abbrev VK3 := T → MH → Prop
noncomputable abbrev TE3 := En → MH → VK3 → Prop
noncomputable abbrev TT3 := En → MH → (Bool → MH → Prop) → Prop
noncomputable abbrev TA3 := En → MH → (List T → MH → Prop) → Prop
structure Ends3 where
 nx : En → MH → Prop
 rt : VK3
 bk : En → MH → Prop := fun _ _ => False
 ct : En → MH → Prop := fun _ _ => False
noncomputable abbrev TS3 := Ends3 → En → MH → Prop
noncomputable def EndE (K : PySem.W.Frag) (H : Hp) (Q : VK3) (Q2 : VK) : Prop := ∀ t v M' H', Kp K H H' → HR K H' M' → Rep K H' v t → Q t M' → Q2 v H'
theorem EndE.kp {K : PySem.W.Frag} {H H' : Hp} {Q : VK3} {Q2 : VK} (h : EndE K H Q Q2) (k : Kp K H H') : EndE K H' Q Q2 := fun t v M' H1 k1 => h t v M' H1 (k.trans k1)
noncomputable def bE (K : PySem.W.Frag) (ρ : En) (M : MH) (Q : VK3) : TE := fun σ H Q2 => RhoR K σ H ρ ∧ HR K H M ∧ EndE K H Q Q2
noncomputable def HE (X : Cx) (e : Expr) (t : TE3) : Prop := ∀ ρ M Q, t ρ M Q → PE X e (bE X.K ρ M Q)
noncomputable def EndT (K : PySem.W.Frag) (H : Hp) (Q : Bool → MH → Prop) (Q2 : Bool → Hp → Prop) : Prop := ∀ b M' H', Kp K H H' → HR K H' M' → Q b M' → Q2 b H'
noncomputable def bT (K : PySem.W.Frag) (ρ : En) (M : MH) (Q : Bool → MH → Prop) : TT := fun σ H Q2 => RhoR K σ H ρ ∧ HR K H M ∧ EndT K H Q Q2
noncomputable def HT (X : Cx) (e : Expr) (t : TT3) : Prop := ∀ ρ M Q, t ρ M Q → PT X e (bT X.K ρ M Q)
noncomputable def EndA (K : PySem.W.Frag) (H : Hp) (Q : List T → MH → Prop) (Q2 : List V → Hp → Prop) : Prop := ∀ ts vs M' H', Kp K H H' → HR K H' M' → Reps K H' vs ts → Q ts M' → Q2 vs H'
noncomputable def bA (K : PySem.W.Frag) (ρ : En) (M : MH) (Q : List T → MH → Prop) : TA := fun σ H Q2 => RhoR K σ H ρ ∧ HR K H M ∧ EndA K H Q Q2
noncomputable def HA (X : Cx) (es : List Expr) (t : TA3) : Prop := ∀ ρ M Q, t ρ M Q → PA X es (bA X.K ρ M Q)
structure EndS (K : PySem.W.Frag) (H : Hp) (D : Ends3) (D2 : Ends) : Prop where
 nx : ∀ ρ' M' σ' H', Kp K H H' → RhoR K σ' H' ρ' → HR K H' M' → D.nx ρ' M' → D2.nx σ' H'
 rt : EndE K H D.rt D2.rt
 bk : ∀ ρ' M' σ' H', Kp K H H' → RhoR K σ' H' ρ' → HR K H' M' → D.bk ρ' M' → D2.bk σ' H'
 ct : ∀ ρ' M' σ' H', Kp K H H' → RhoR K σ' H' ρ' → HR K H' M' → D.ct ρ' M' → D2.ct σ' H'
theorem EndS.kp {K : PySem.W.Frag} {H H' : Hp} {D : Ends3} {D2 : Ends} (h : EndS K H D D2) (k : Kp K H H') : EndS K H' D D2 :=
 ⟨fun a b c d k1 => h.nx a b c d (k.trans k1), h.rt.kp k, fun a b c d k1 => h.bk a b c d (k.trans k1), fun a b c d k1 => h.ct a b c d (k.trans k1)⟩
noncomputable def bS (K : PySem.W.Frag) (D : Ends3) (ρ : En) (M : MH) : TS := fun D2 σ H => RhoR K σ H ρ ∧ HR K H M ∧ EndS K H D D2
noncomputable def HS (X : Cx) (st : Stmt) (t : TS3) : Prop := ∀ D ρ M, t D ρ M → PS X st (bS X.K D ρ M)
noncomputable def HSs (X : Cx) (st : List Stmt) (t : TS3) : Prop := ∀ D ρ M, t D ρ M → PSs X st (bS X.K D ρ M)
noncomputable def dE (K : PySem.W.Frag) (ρ : En) (t : TE3) : TE := fun σ H Q2 => ∃ M Q, t ρ M Q ∧ bE K ρ M Q σ H Q2
noncomputable def dT (K : PySem.W.Frag) (ρ : En) (t : TT3) : TT := fun σ H Q2 => ∃ M Q, t ρ M Q ∧ bT K ρ M Q σ H Q2
noncomputable def dA (K : PySem.W.Frag) (ρ : En) (t : TA3) : TA := fun σ H Q2 => ∃ M Q, t ρ M Q ∧ bA K ρ M Q σ H Q2
noncomputable def dS (K : PySem.W.Frag) (t : TS3) : TS := fun D2 σ H => ∃ D ρ M, t D ρ M ∧ bS K D ρ M D2 σ H
section
variable {X : Cx} {e : Expr} {es : List Expr} {st : Stmt} {sts : List Stmt} {ρ : En}
theorem HE.d {t : TE3} (h : HE X e t) : PE X e (dE X.K ρ t) := fun pins s σ H Q I ⟨M, Q3, q, b⟩ => h ρ M Q3 q pins s σ H Q I b
theorem HT.d {t : TT3} (h : HT X e t) : PT X e (dT X.K ρ t) := fun pins s σ H Q I ⟨M, Q3, q, b⟩ => h ρ M Q3 q pins s σ H Q I b
theorem HA.d {t : TA3} (h : HA X es t) : PA X es (dA X.K ρ t) := fun pos pins s σ H Q I ⟨M, Q3, q, b⟩ => h ρ M Q3 q pos pins s σ H Q I b
theorem HS.d {t : TS3} (h : HS X st t) : PS X st (dS X.K t) := fun pins s σ H D I ⟨D3, ρ, M, q, b⟩ => h D3 ρ M q pins s σ H D I b
theorem HSs.d {t : TS3} (h : HSs X sts t) : PSs X sts (dS X.K t) := fun pins s σ H D I ⟨D3, ρ, M, q, b⟩ => h D3 ρ M q pins s σ H D I b
end
end L2
namespace L2
open PySem PySem.Spec PyProof.Rows
mutual
noncomputable def eqT : T → T → Bool
 | .non, .non => true
 | .bl a, .bl b => a == b
 | .bl a, .int b => (if a then 1 else 0) == b
 | .int a, .bl b => a == (if b then 1 else 0)
 | .int a, .int b => a == b
 | .str a, .str b => a == b
 | .tup a, .tup b => eqTs a b
 | _, _ => false
noncomputable def eqTs : List T → List T → Bool
 | [], [] => true
 | x :: xs, y :: ys => eqT x y && eqTs xs ys
 | _, _ => false
end
mutual
noncomputable def pureT : T → Bool
 | .adr _ => false
 | .rd _ => false
 | .dic _ _ => false
 | .tup ts => pureTs ts
 | _ => true
noncomputable def pureTs : List T → Bool
 | [] => true
 | t :: ts => pureT t && pureTs ts
end
mutual
noncomputable def depT : T → Nat
 | .tup ts => depTs ts + 1
 | _ => 0
noncomputable def depTs : List T → Nat
 | [] => 0
 | t :: ts => max (depT t) (depTs ts)
end
theorem pureTs_get : ∀ {ts : List T} {j : Nat} {t : T}, pureTs ts = true → ts[j]? = some t → pureT t = true
 | [], _, _, _, e => by simp at e
 | x :: ts, 0, t, h, e => by simp at e; subst e; unfold pureTs at h; exact (Bool.and_eq_true _ _ ▸ h).1
 | x :: ts, j + 1, t, h, e => by
   unfold pureTs at h
   exact pureTs_get (j := j) (Bool.and_eq_true _ _ ▸ h).2 (by simpa using e)
theorem depTs_get : ∀ {ts : List T} {j : Nat} {t : T}, ts[j]? = some t → depT t ≤ depTs ts
 | [], _, _, e => by simp at e
 | x :: ts, 0, t, e => by simp at e; subst e; unfold depTs; exact Nat.le_max_left _ _
 | x :: ts, j + 1, t, e => by
   have := depTs_get (ts := ts) (j := j) (t := t) (by simpa using e)
   unfold depTs; exact Nat.le_trans this (Nat.le_max_right _ _)
noncomputable def eqJ (xs ys : List T) (j : Nat) : Bool := match xs[j]?, ys[j]? with
 | some x, some y => eqT x y
 | _, _ => true
theorem eqTs_range : ∀ (xs ys : List T), (((List.range (min xs.length ys.length)).all (eqJ xs ys)) && (xs.length == ys.length)) = eqTs xs ys
 | [], [] => by unfold eqTs; rfl
 | [], y :: ys => by unfold eqTs; simp
 | x :: xs, [] => by unfold eqTs; simp
 | x :: xs, y :: ys => by
   unfold eqTs
   rw [← eqTs_range xs ys]
   rw [List.length_cons, List.length_cons, Nat.succ_min_succ, List.range_succ_eq_map, List.all_cons, List.all_map]
   have e1 : eqJ (x :: xs) (y :: ys) 0 = eqT x y := rfl
   have e2 : (eqJ (x :: xs) (y :: ys)) ∘ Nat.succ = eqJ xs ys := by
     funext j; simp [eqJ]
   rw [e1, e2, Bool.and_assoc]
   congr 2
   simp
theorem eqTs_len : ∀ {xs ys : List T}, eqTs xs ys = true → xs.length = ys.length
 | [], [], _ => rfl
 | [], y :: ys, h => by unfold eqTs at h; cases h
 | x :: xs, [], h => by unfold eqTs at h; cases h
 | x :: xs, y :: ys, h => by
   unfold eqTs at h
   rw [Bool.and_eq_true] at h
   rw [List.length_cons, List.length_cons, eqTs_len h.2]
mutual
theorem eqT_refl : ∀ (x : T), pureT x = true → eqT x x = true
 | .non, _ => rfl
 | .bl b, _ => by simp [eqT]
 | .int i, _ => by simp [eqT]
 | .str x, _ => by simp [eqT]
 | .adr a, h => by unfold pureT at h; cases h
 | .rd a, h => by unfold pureT at h; cases h
 | .dic ks a, h => by unfold pureT at h; cases h
 | .tup ts, h => by unfold pureT at h; unfold eqT; exact eqTs_refl ts h
theorem eqTs_refl : ∀ (xs : List T), pureTs xs = true → eqTs xs xs = true
 | [], _ => by unfold eqTs; rfl
 | x :: xs, h => by
   unfold pureTs at h
   rw [Bool.and_eq_true] at h
   unfold eqTs
   rw [eqT_refl x h.1, eqTs_refl xs h.2]
   rfl
end
section
variable {X : Cx} {pins : List (Addr × Obj)} {σ : St} {H : Hp} {s : Shared}
theorem rep_det (I : Inv X pins σ H s) : ∀ (x y : T) (v : V), pureT x = true → pureT y = true → Rep X.K H v x → Rep X.K H v y → eqT x y = true := by
 have key : ∀ n (x y : T) (v : V), depT x ≤ n → pureT x = true → pureT y = true → Rep X.K H v x → Rep X.K H v y → eqT x y = true := by
   intro n
   induction n with
   | zero =>
     intro x y v hd px py rx ry
     cases x with
     | tup ts => unfold depT at hd; lia
     | adr a => unfold pureT at px; cases px
     | rd a => unfold pureT at px; cases px
     | dic ks a => unfold pureT at px; cases px
     | _ => unfold Rep at rx; subst rx; cases y <;> unfold Rep at ry <;> first | (obtain ⟨_, _, e, _⟩ := ry; cases e; done) | (unfold pureT at py; cases py; done) | (cases ry <;> simp [eqT])
   | succ n ih =>
     intro x y v hd px py rx ry
     cases x with
     | adr a => unfold pureT at px; cases px
     | rd a => unfold pureT at px; cases px
     | dic ks a => unfold pureT at px; cases px
     | tup ts =>
       unfold Rep at rx
       obtain ⟨a, xs, rfl, h1, h2⟩ := rx
       cases y with
       | adr a => unfold pureT at py; cases py
       | rd a => unfold pureT at py; cases py
       | dic ks a => unfold pureT at py; cases py
       | tup us =>
         unfold Rep at ry
         obtain ⟨a', ys, e, g1, g2⟩ := ry
         cases e
         obtain rfl := I.tuple_inj h1 g1
         unfold pureT at px py
         unfold depT at hd
         unfold eqT
         have hl := h2.length
         have hl2 := g2.length
         rw [← eqTs_range]
         rw [← hl, ← hl2]
         simp only [Nat.min_self, beq_self_eq_true, Bool.and_true, List.all_eq_true, List.mem_range]
         intro j hj
         have e1 : ts[j]? = some ts[j] := List.getElem?_eq_getElem (by lia)
         have e2 : us[j]? = some us[j] := List.getElem?_eq_getElem (by lia)
         obtain ⟨v1, q1, r1⟩ := h2.get e1
         obtain ⟨v2, q2, r2⟩ := g2.get e2
         rw [q1] at q2; cases q2
         unfold eqJ
         rw [e1, e2]
         have := depTs_get e1
         exact ih _ _ _ (by lia) (pureTs_get px e1) (pureTs_get py e2) r1 r2
       | _ => unfold Rep at ry; cases ry
     | _ => unfold Rep at rx; subst rx; cases y <;> unfold Rep at ry <;> first | (obtain ⟨_, _, e, _⟩ := ry; cases e; done) | (unfold pureT at py; cases py; done) | (cases ry <;> simp [eqT])
 exact fun x y v => key (depT x) x y v (Nat.le_refl _)
open SeqAt in
theorem eqAt_scal {A : Around} (x y : T) (v u : V) (a b : Value) (px : pureT x = true) (py : pureT y = true) (rx : Rep X.K H v x) (ry : Rep X.K H u y) (ra : RelV v a) (rb : RelV u b) (nx : ∀ ts, x ≠ .tup ts) (ny : ∀ ts, y ≠ .tup ts) :
   SeqAt.EqAt A s a b (eqT x y) ∧ SeqAt.RcAt A s a b (eqT x y) ∧ SeqAt.RcNeAt A s a b (!(eqT x y)) := by
 cases x with
 | tup ts => exact absurd rfl (nx ts)
 | adr p => unfold pureT at px; cases px
 | rd p => unfold pureT at px; cases px
 | dic ks p => unfold pureT at px; cases px
 | non =>
   unfold Rep at rx; subst rx
   cases ra
   cases y with
   | tup ts => exact absurd rfl (ny ts)
   | adr p => unfold pureT at py; cases py
   | rd p => unfold pureT at py; cases py
   | dic ks p => unfold pureT at py; cases py
   | non =>
     unfold Rep at ry; subst ry
     cases rb
     have e : eqT .non .non = true := rfl
     rw [e]
     exact ⟨EqAt.same _, RcAt.none_none, RcNeAt.none_none⟩
   | bl c0 =>
     unfold Rep at ry; subst ry
     cases rb
     have e : eqT .non (.bl c0) = false := rfl
     rw [e]
     exact ⟨EqAt.none_bool _, RcAt.none_bool _, RcNeAt.none_bool _⟩
   | int c0 =>
     unfold Rep at ry; subst ry
     obtain ⟨t_rb, rfl⟩ := rb
     have e : eqT .non (.int c0) = false := rfl
     rw [e]
     exact ⟨EqAt.none_int _ _, RcAt.none_int _ _, RcNeAt.none_int _ _⟩
   | str c0 =>
     unfold Rep at ry; subst ry
     obtain ⟨t_rb, rfl⟩ := rb
     have e : eqT .non (.str c0) = false := rfl
     rw [e]
     exact ⟨EqAt.none_str _ _, RcAt.none_str _ _, RcNeAt.none_str _ _⟩
 | bl b0 =>
   unfold Rep at rx; subst rx
   cases ra
   cases y with
   | tup ts => exact absurd rfl (ny ts)
   | adr p => unfold pureT at py; cases py
   | rd p => unfold pureT at py; cases py
   | dic ks p => unfold pureT at py; cases py
   | non =>
     unfold Rep at ry; subst ry
     cases rb
     have e : eqT (.bl b0) .non = false := rfl
     rw [e]
     exact ⟨EqAt.bool_none _, RcAt.bool_none _, RcNeAt.bool_none _⟩
   | bl c0 =>
     unfold Rep at ry; subst ry
     cases rb
     have e : eqT (.bl b0) (.bl c0) = (b0 == c0) := rfl
     rw [e]
     exact ⟨EqAt.bool_bool _ _, RcAt.bool_bool _ _, RcNeAt.bool_bool _ _⟩
   | int c0 =>
     unfold Rep at ry; subst ry
     obtain ⟨t_rb, rfl⟩ := rb
     have e : eqT (.bl b0) (.int c0) = ((if b0 then 1 else 0) == c0) := rfl
     rw [e]
     exact ⟨EqAt.bool_int _ _ _, RcAt.bool_int _ _ _, RcNeAt.bool_int _ _ _⟩
   | str c0 =>
     unfold Rep at ry; subst ry
     obtain ⟨t_rb, rfl⟩ := rb
     have e : eqT (.bl b0) (.str c0) = false := rfl
     rw [e]
     exact ⟨EqAt.bool_str _ _ _, RcAt.bool_str _ _ _, RcNeAt.bool_str _ _ _⟩
 | int b0 =>
   unfold Rep at rx; subst rx
   obtain ⟨t_ra, rfl⟩ := ra
   cases y with
   | tup ts => exact absurd rfl (ny ts)
   | adr p => unfold pureT at py; cases py
   | rd p => unfold pureT at py; cases py
   | dic ks p => unfold pureT at py; cases py
   | non =>
     unfold Rep at ry; subst ry
     cases rb
     have e : eqT (.int b0) .non = false := rfl
     rw [e]
     exact ⟨EqAt.int_none _ _, RcAt.int_none _ _, RcNeAt.int_none _ _⟩
   | bl c0 =>
     unfold Rep at ry; subst ry
     cases rb
     have e : eqT (.int b0) (.bl c0) = (b0 == (if c0 then 1 else 0)) := rfl
     rw [e]
     exact ⟨EqAt.int_bool _ _ _, RcAt.int_bool _ _ _, RcNeAt.int_bool _ _ _⟩
   | int c0 =>
     unfold Rep at ry; subst ry
     obtain ⟨t_rb, rfl⟩ := rb
     have e : eqT (.int b0) (.int c0) = (b0 == c0) := rfl
     rw [e]
     exact ⟨EqAt.int_int _ _ _ _, RcAt.int_int _ _ _ _, RcNeAt.int_int _ _ _ _⟩
   | str c0 =>
     unfold Rep at ry; subst ry
     obtain ⟨t_rb, rfl⟩ := rb
     have e : eqT (.int b0) (.str c0) = false := rfl
     rw [e]
     exact ⟨EqAt.int_str _ _ _ _, RcAt.int_str _ _ _ _, RcNeAt.int_str _ _ _ _⟩
 | str b0 =>
   unfold Rep at rx; subst rx
   obtain ⟨t_ra, rfl⟩ := ra
   cases y with
   | tup ts => exact absurd rfl (ny ts)
   | adr p => unfold pureT at py; cases py
   | rd p => unfold pureT at py; cases py
   | dic ks p => unfold pureT at py; cases py
   | non =>
     unfold Rep at ry; subst ry
     cases rb
     have e : eqT (.str b0) .non = false := rfl
     rw [e]
     exact ⟨EqAt.str_none _ _, RcAt.str_none _ _, RcNeAt.str_none _ _⟩
   | bl c0 =>
     unfold Rep at ry; subst ry
     cases rb
     have e : eqT (.str b0) (.bl c0) = false := rfl
     rw [e]
     exact ⟨EqAt.str_bool _ _ _, RcAt.str_bool _ _ _, RcNeAt.str_bool _ _ _⟩
   | int c0 =>
     unfold Rep at ry; subst ry
     obtain ⟨t_rb, rfl⟩ := rb
     have e : eqT (.str b0) (.int c0) = false := rfl
     rw [e]
     exact ⟨EqAt.str_int _ _ _ _, RcAt.str_int _ _ _ _, RcNeAt.str_int _ _ _ _⟩
   | str c0 =>
     unfold Rep at ry; subst ry
     obtain ⟨t_rb, rfl⟩ := rb
     have e : eqT (.str b0) (.str c0) = (b0 == c0) := rfl
     rw [e]
     exact ⟨EqAt.str_str _ _ _ _, RcAt.str_str _ _ _ _, RcNeAt.str_str _ _ _ _⟩
theorem depT0 {x : T} (h : ∀ ts, x ≠ .tup ts) : depT x = 0 := by
 cases x with
 | tup ts => exact absurd rfl (h ts)
 | _ => rfl
open SeqAt in
/-- a tuple against what is none -/
theorem eqAt_tup_r {A : Around} {p : Addr} {its : Array Value} (ht : s.heap.IsTuple p its) (hu : A.units < cLine) (x : T) (us : List T) (v : V) (a : Value) (px : pureT x = true) (rx : Rep X.K H v x) (ra : RelV v a) (nx : ∀ ts, x ≠ .tup ts) :
   SeqAt.EqAt A s a (.ref p) (eqT x (.tup us)) ∧ SeqAt.RcAt A s a (.ref p) (eqT x (.tup us)) ∧ SeqAt.RcNeAt A s a (.ref p) (!(eqT x (.tup us))) := by
 cases x with
 | tup ts => exact absurd rfl (nx ts)
 | adr q => unfold pureT at px; cases px
 | rd q => unfold pureT at px; cases px
 | dic ks q => unfold pureT at px; cases px
 | non =>
   unfold Rep at rx; subst rx; cases ra
   have e : eqT .non (.tup us) = false := rfl
   rw [e]; exact ⟨.none_tuple ht hu, .none_tuple ht hu, .none_tuple ht hu⟩
 | bl b0 =>
   unfold Rep at rx; subst rx; cases ra
   have e : eqT (.bl b0) (.tup us) = false := rfl
   rw [e]; exact ⟨.bool_tuple _ ht hu, .bool_tuple _ ht hu, .bool_tuple _ ht hu⟩
 | int b0 =>
   unfold Rep at rx; subst rx; obtain ⟨t, rfl⟩ := ra
   have e : eqT (.int b0) (.tup us) = false := rfl
   rw [e]; exact ⟨.int_tuple _ _ ht hu, .int_tuple _ _ ht hu, .int_tuple _ _ ht hu⟩
 | str b0 =>
   unfold Rep at rx; subst rx; obtain ⟨t, rfl⟩ := ra
   have e : eqT (.str b0) (.tup us) = false := rfl
   rw [e]; exact ⟨.str_tuple _ _ ht hu, .str_tuple _ _ ht hu, .str_tuple _ _ ht hu⟩
open SeqAt in
theorem eqAt_tup_l {A : Around} {p : Addr} {its : Array Value} (ht : s.heap.IsTuple p its) (hu : A.units < cLine) (x : T) (us : List T) (v : V) (a : Value) (px : pureT x = true) (rx : Rep X.K H v x) (ra : RelV v a) (nx : ∀ ts, x ≠ .tup ts) :
   SeqAt.EqAt A s (.ref p) a (eqT (.tup us) x) ∧ SeqAt.RcAt A s (.ref p) a (eqT (.tup us) x) ∧ SeqAt.RcNeAt A s (.ref p) a (!(eqT (.tup us) x)) := by
 cases x with
 | tup ts => exact absurd rfl (nx ts)
 | adr q => unfold pureT at px; cases px
 | rd q => unfold pureT at px; cases px
 | dic ks q => unfold pureT at px; cases px
 | non =>
   unfold Rep at rx; subst rx; cases ra
   have e : eqT (.tup us) .non = false := rfl
   rw [e]; exact ⟨.tuple_none ht hu, .tuple_none ht hu, .tuple_none ht hu⟩
 | bl b0 =>
   unfold Rep at rx; subst rx; cases ra
   have e : eqT (.tup us) (.bl b0) = false := rfl
   rw [e]; exact ⟨.tuple_bool _ ht hu, .tuple_bool _ ht hu, .tuple_bool _ ht hu⟩
 | int b0 =>
   unfold Rep at rx; subst rx; obtain ⟨t, rfl⟩ := ra
   have e : eqT (.tup us) (.int b0) = false := rfl
   rw [e]; exact ⟨.tuple_int _ _ ht hu, .tuple_int _ _ ht hu, .tuple_int _ _ ht hu⟩
 | str b0 =>
   unfold Rep at rx; subst rx; obtain ⟨t, rfl⟩ := ra
   have e : eqT (.tup us) (.str b0) = false := rfl
   rw [e]; exact ⟨.tuple_str _ _ ht hu, .tuple_str _ _ ht hu, .tuple_str _ _ ht hu⟩
theorem tup_or (x : T) : (∃ ts, x = .tup ts) ∨ ∀ ts, x ≠ .tup ts := by
 cases x with
 | tup ts => exact .inl ⟨ts, rfl⟩
 | _ => exact .inr fun ts e => by cases e
theorem items_eq {A : Around} {n : Nat} {ts us : List T} {xs ys : List V} {its its2 : List Value} (px : pureTs ts = true) (py : pureTs us = true) (hd : depTs ts ≤ n) (h2 : Reps X.K H xs ts) (g2 : Reps X.K H ys us) (r1 : Vals xs its) (r2 : Vals ys its2)
   (ih : ∀ (x y : T) (v u : V) (a b : Value), depT x ≤ n → pureT x = true → pureT y = true → Rep X.K H v x → Rep X.K H u y → RelV v a → RelV u b → SeqAt.EqAt A s a b (eqT x y)) (j : Nat) (hj1 : j < its.toArray.size) (hj2 : j < its2.toArray.size) :
   SeqAt.EqAt A s its.toArray[j] its2.toArray[j] (eqJ ts us j) := by
 have l1 := h2.length
 have l2 := g2.length
 have m1 := r1.length
 have m2 := r2.length
 have hj1' : j < its.length := by simpa using hj1
 have hj2' : j < its2.length := by simpa using hj2
 have e1 : ts[j]? = some (ts[j]'(by lia)) := List.getElem?_eq_getElem (by lia)
 have e2 : us[j]? = some (us[j]'(by lia)) := List.getElem?_eq_getElem (by lia)
 obtain ⟨v1, a1, b1⟩ := h2.get e1
 obtain ⟨v2, a2, b2⟩ := g2.get e2
 obtain ⟨w1, c1, d1⟩ := r1.get a1
 obtain ⟨w2, c2, d2⟩ := r2.get a2
 have f1 : its.toArray[j] = w1 := by
   have : its[j]? = some (its[j]'hj1') := List.getElem?_eq_getElem hj1'
   rw [c1] at this
   simpa using (Option.some.inj this).symm
 have f2 : its2.toArray[j] = w2 := by
   have : its2[j]? = some (its2[j]'hj2') := List.getElem?_eq_getElem hj2'
   rw [c2] at this
   simpa using (Option.some.inj this).symm
 have e3 : eqJ ts us j = eqT (ts[j]'(by lia)) (us[j]'(by lia)) := by unfold eqJ; rw [e1, e2]
 rw [f1, f2, e3]
 have := depTs_get e1
 exact ih _ _ v1 v2 w1 w2 (by lia) (pureTs_get px e1) (pureTs_get py e2) b1 b2 d1 d2
open SeqAt in
/-- == (by identity first), ==, != of two values, by their trees -/
theorem eqAt_T (I : Inv X pins σ H s) : ∀ n (A : Around) (x y : T) (v u : V) (a b : Value), depT x ≤ n → A.units + n + 1 < cLine → pureT x = true → pureT y = true → Rep X.K H v x → Rep X.K H u y → RelV v a → RelV u b →
   SeqAt.EqAt A s a b (eqT x y) ∧ SeqAt.RcAt A s a b (eqT x y) ∧ SeqAt.RcNeAt A s a b (!(eqT x y)) := by
 intro n
 induction n with
 | zero =>
   intro A x y v u a b hd hu px py rx ry ra rb
   rcases tup_or x with ⟨ts, rfl⟩ | nx
   · unfold depT at hd; lia
   · rcases tup_or y with ⟨us, rfl⟩ | ny
     · unfold Rep at ry
       obtain ⟨p, ys, rfl, g1, g2⟩ := ry
       obtain ⟨its, r', ht, _⟩ := I.tuple g1
       have ht' : s.heap.IsTuple p its.toArray := ht
       cases rb
       exact eqAt_tup_r ht' (by lia) x us v a px rx ra nx
     · exact eqAt_scal x y v u a b px py rx ry ra rb nx ny
 | succ n ih =>
   intro A x y v u a b hd hu px py rx ry ra rb
   have hu' : A.units < cLine := by lia
   rcases tup_or x with ⟨ts, rfl⟩ | nx
   · have rx' := rx
     unfold Rep at rx
     obtain ⟨p, xs, rfl, h1, h2⟩ := rx
     cases ra
     obtain ⟨its, r1, ht, _⟩ := I.tuple h1
     have ht' : s.heap.IsTuple p its.toArray := ht
     rcases tup_or y with ⟨us, rfl⟩ | ny
     · have ry' := ry
       unfold Rep at ry
       obtain ⟨q, ys, rfl, g1, g2⟩ := ry
       cases rb
       obtain ⟨its2, r2, ht2, _⟩ := I.tuple g1
       have ht2' : s.heap.IsTuple q its2.toArray := ht2
       have px' := px
       have py' := py
       unfold pureT at px py
       unfold depT at hd
       have he := items_eq (A := A.in1) (s := s) (n := n) px py (by lia) h2 g2 r1 r2 fun x y v u a b hx px py rx ry ra rb => (ih A.in1 x y v u a b hx (by show A.units + 1 + n + 1 < cLine; lia) px py rx ry ra rb).1
       have ee : ((List.range (min its.toArray.size its2.toArray.size)).all (eqJ ts us) && its.toArray.size == its2.toArray.size) = eqT (.tup ts) (.tup us) := by
         have l1 := h2.length
         have l2 := g2.length
         have m1 := r1.length
         have m2 := r2.length
         unfold eqT
         rw [← eqTs_range, List.size_toArray, List.size_toArray, ← m1, ← m2, l1, l2]
       have rc := RcAt.tuples (A := A) (e := eqJ ts us) ht' ht2' hu' he
       have rn := RcNeAt.tuples (A := A) (e := eqJ ts us) ht' ht2' hu' he
       rw [ee] at rc rn
       refine ⟨?_, rc, rn⟩
       by_cases hpq : p = q
       · subst hpq
         have e : eqT (.tup ts) (.tup us) = true := rep_det I (.tup ts) (.tup us) (.ref p) px' py' rx' ry'
         rw [e]; exact .same _
       · exact .of_refs hpq rc
     · exact eqAt_tup_l ht' hu' y ts u b py ry rb ny
   · exact ih A x y v u a b (by rw [depT0 nx]; exact Nat.zero_le _) (by lia) px py rx ry ra rb
end
end L2
namespace L2
open PySem PySem.Spec PyProof.Rows
noncomputable abbrev R3 := T → T → MH → VK3 → Prop
noncomputable def dR (K : PySem.W.Frag) (r : R3) : R2 := fun v u H Q2 => ∃ x y M Q, Rep K H v x ∧ Rep K H u y ∧ HR K H M ∧ r x y M Q ∧ EndE K H Q Q2
noncomputable def dU (K : PySem.W.Frag) (r : T → MH → VK3 → Prop) : V → Hp → VK → Prop := fun v H Q2 => ∃ x M Q, Rep K H v x ∧ HR K H M ∧ r x M Q ∧ EndE K H Q Q2
noncomputable def dL (K : PySem.W.Frag) (r : List T → MH → VK3 → Prop) : List V → Hp → VK → Prop := fun vs H Q2 => ∃ xs M Q, Reps K H vs xs ∧ HR K H M ∧ r xs M Q ∧ EndE K H Q Q2
theorem Kp.new {K : PySem.W.Frag} {H : Hp} {p : Addr} {o : HO} (h : H p = none) : Kp K H (upd H p o) := by
 refine ⟨fun a xs q => ?_, fun a ob u q => by rw [upd_ne (ne_of_none q h)]; exact q⟩
 rcases q with (q | ⟨ob, q⟩) | q
 · exact .inl (.inl (by rw [upd_ne (ne_of_none q h)]; exact q))
 · exact .inl (.inr ⟨ob, by rw [upd_ne (ne_of_none q h)]; exact q⟩)
 · exact .inr q
theorem Kp.lst {K : PySem.W.Frag} {H : Hp} {p : Addr} {xs ys : List V} (h : H p = some (.lst xs)) : Kp K H (upd H p (.lst ys)) := by
 have ne : ∀ {a : Addr} {o : HO}, H a = some o → o ≠ .lst xs → a ≠ p := fun {a o} q hn e => by
   subst e
   rw [h] at q; cases q; exact hn rfl
 refine ⟨fun a zs q => ?_, fun a ob u q => by rw [upd_ne (ne q (by intro z; cases z))]; exact q⟩
 rcases q with (q | ⟨ob, q⟩) | q
 · exact .inl (.inl (by rw [upd_ne (ne q (by intro z; cases z))]; exact q))
 · exact .inl (.inr ⟨ob, by rw [upd_ne (ne q (by intro z; cases z))]; exact q⟩)
 · exact .inr q
theorem Kp.dict {K : PySem.W.Frag} {H : Hp} {p : Addr} {o u : HO} (h : H p = some o) (ho : (∃ kvs, o = .dK kvs) ∨ ∃ kvs, o = .dT kvs) : Kp K H (upd H p u) := by
 have ne : ∀ {a : Addr} {u : HO}, H a = some u → ((∃ xs, u = .tup xs) ∨ ∃ b x, u = .frz b x) → a ≠ p := fun {a u} q hn e => by
   subst e
   rw [h] at q; cases q
   rcases ho with ⟨_, rfl⟩ | ⟨_, rfl⟩ <;> rcases hn with ⟨_, z⟩ | ⟨_, _, z⟩ <;> cases z
 refine ⟨fun a zs q => ?_, fun a ob u q => by rw [upd_ne (ne q (.inr ⟨_, _, rfl⟩))]; exact q⟩
 rcases q with (q | ⟨ob, q⟩) | q
 · exact .inl (.inl (by rw [upd_ne (ne q (.inl ⟨_, rfl⟩))]; exact q))
 · exact .inl (.inr ⟨ob, by rw [upd_ne (ne q (.inr ⟨_, _, rfl⟩))]; exact q⟩)
 · exact .inr q
section
variable {K : PySem.W.Frag} {H : Hp} {M : MH}
noncomputable def Wr : HO → Prop
 | .lst _ => True
 | .dK _ => True
 | .dT _ => True
 | .frz _ _ => True
 | _ => False
theorem MOk.kp {H' : Hp} {a : Addr} {o : MO} (h : MOk K H a o) (k : Kp K H H') (ha : ∀ u, Wr u → H a = some u → H' a = some u) : MOk K H' a o := by
 cases o with
 | lst ts => obtain ⟨xs, e, r⟩ := h; exact ⟨xs, ha _ trivial e, Reps.kp k _ _ r⟩
 | dk kvs => obtain ⟨xs, e, r⟩ := h; exact ⟨xs, ha _ trivial e, r.kp k⟩
 | dt kvs => obtain ⟨xs, e, r⟩ := h; exact ⟨xs, ha _ trivial e, r.kp k⟩
 | fz kvs => obtain ⟨ob, xs, e, r⟩ := h; exact ⟨ob, xs, k.frz _ _ _ e, r.kp k⟩
theorem MOk.some {a : Addr} {o : MO} (h : MOk K H a o) : ∃ u, H a = Option.some u ∧ Wr u := by
 cases o with
 | lst ts => obtain ⟨xs, e, r⟩ := h; exact ⟨_, e, trivial⟩
 | dk kvs => obtain ⟨xs, e, r⟩ := h; exact ⟨_, e, trivial⟩
 | dt kvs => obtain ⟨xs, e, r⟩ := h; exact ⟨_, e, trivial⟩
 | fz kvs => obtain ⟨ob, xs, e, r⟩ := h; exact ⟨_, e, trivial⟩
theorem HR.free {p : Addr} (h : HR K H M) (hp : H p = none) : M p = none := by
 cases q : M p with
 | none => rfl
 | some o =>
   obtain ⟨u, e, _⟩ := (h p o q).some
   rw [hp] at e; cases e
theorem HR.keep {p : Addr} {o : HO} (h : HR K H M) (hp : H p = none) : HR K (upd H p o) M := fun a u e =>
 (h a u e).kp (Kp.new hp) fun u _ q => by rw [upd_ne (ne_of_none q hp)]; exact q
theorem HR.newL {p : Addr} {xs : List V} {ts : List T} (h : HR K H M) (hp : H p = none) (r : Reps K H xs ts) : HR K (upd H p (.lst xs)) (updM M p (.lst ts)) := fun a u e => by
 by_cases ha : a = p
 · subst ha
   rw [updM_same] at e; cases e
   exact ⟨xs, upd_same, Reps.kp (Kp.new hp) _ _ r⟩
 · rw [updM_ne ha] at e
   exact (h.keep hp) a u e
theorem HR.setL {p : Addr} {xs ys : List V} {us : List T} (h : HR K H M) (hp : H p = some (.lst xs)) (r : Reps K H ys us) : HR K (upd H p (.lst ys)) (updM M p (.lst us)) := fun a u e => by
 by_cases ha : a = p
 · subst ha
   rw [updM_same] at e; cases e
   exact ⟨ys, upd_same, Reps.kp (Kp.lst hp) _ _ r⟩
 · rw [updM_ne ha] at e
   exact (h a u e).kp (Kp.lst hp) fun u _ q => by rw [upd_ne ha]; exact q
theorem HR.newK {p : Addr} {xs : List (Key × V)} {kvs : List (Key × T)} (h : HR K H M) (hp : H p = none) (r : KRep K H xs kvs) : HR K (upd H p (.dK xs)) (updM M p (.dk kvs)) := fun a u e => by
 by_cases ha : a = p
 · subst ha
   rw [updM_same] at e; cases e
   exact ⟨xs, upd_same, r.kp (Kp.new hp)⟩
 · rw [updM_ne ha] at e
   exact (h.keep hp) a u e
theorem HR.newT {p : Addr} {xs : List (List Key × V)} {kvs : List (List Key × T)} (h : HR K H M) (hp : H p = none) (r : KRep K H xs kvs) : HR K (upd H p (.dT xs)) (updM M p (.dt kvs)) := fun a u e => by
 by_cases ha : a = p
 · subst ha
   rw [updM_same] at e; cases e
   exact ⟨xs, upd_same, r.kp (Kp.new hp)⟩
 · rw [updM_ne ha] at e
   exact (h.keep hp) a u e
theorem HR.setK {p : Addr} {o : HO} {xs : List (Key × V)} {kvs : List (Key × T)} (h : HR K H M) (hp : H p = some o) (ho : (∃ kvs, o = .dK kvs) ∨ ∃ kvs, o = .dT kvs) (r : KRep K H xs kvs) : HR K (upd H p (.dK xs)) (updM M p (.dk kvs)) := fun a u e => by
 by_cases ha : a = p
 · subst ha
   rw [updM_same] at e; cases e
   exact ⟨xs, upd_same, r.kp (Kp.dict hp ho)⟩
 · rw [updM_ne ha] at e
   exact (h a u e).kp (Kp.dict hp ho) fun u _ q => by rw [upd_ne ha]; exact q
theorem HR.setT {p : Addr} {o : HO} {xs : List (List Key × V)} {kvs : List (List Key × T)} (h : HR K H M) (hp : H p = some o) (ho : (∃ kvs, o = .dK kvs) ∨ ∃ kvs, o = .dT kvs) (r : KRep K H xs kvs) : HR K (upd H p (.dT xs)) (updM M p (.dt kvs)) := fun a u e => by
 by_cases ha : a = p
 · subst ha
   rw [updM_same] at e; cases e
   exact ⟨xs, upd_same, r.kp (Kp.dict hp ho)⟩
 · rw [updM_ne ha] at e
   exact (h a u e).kp (Kp.dict hp ho) fun u _ q => by rw [upd_ne ha]; exact q
end
noncomputable def OpR3 (X : Cx) (f : Value → Value → Sem Value) (r : R3) : Prop := OpR X f (dR X.K r)
noncomputable def UnR3 (X : Cx) (f : Value → Sem Value) (r : T → MH → VK3 → Prop) : Prop := UnR X f (dU X.K r)
noncomputable def CallR3 (X : Cx) (f : Value) (r : List T → MH → VK3 → Prop) : Prop := CallR X f (dL X.K r)
noncomputable def IxR3 (X : Cx) (r : R3) : Prop := IxR X (dR X.K r)
noncomputable def tOp3 (r : R3) (ta tb : TE3) : TE3 := fun ρ M Q => ta ρ M fun x M1 => tb ρ M1 fun y M2 => r x y M2 Q
noncomputable def tUn3 (r : T → MH → VK3 → Prop) (ta : TE3) : TE3 := fun ρ M Q => ta ρ M fun x M1 => r x M1 Q
noncomputable def tVar3 (i : Nat) : TE3 := fun ρ M Q => match ρ[i]? with
 | some (some t) => Q t M
 | _ => False
noncomputable def tK (t : T) : TE3 := fun _ M Q => Q t M
section
variable {X : Cx} {a b c e : Expr} {es : List Expr} {ta tb tc te : TE3} {pos : Pos}
theorem dOp {ρ : En} {M : MH} {Q : VK3} {r : R3} (h : tOp3 r ta tb ρ M Q) {σ : St} {H : Hp} {Q2 : VK} (b : bE X.K ρ M Q σ H Q2) : tOp (dR X.K r) (dE X.K ρ ta) (dE X.K ρ tb) σ H Q2 := by
 obtain ⟨hr, hh, en⟩ := b
 refine ⟨M, _, h, hr, hh, fun t v M1 H1 k1 h1 r1 q1 => ⟨M1, _, q1, hr.kp k1, h1, fun t2 v2 M2 H2 k2 h2 r2 q2 => ⟨t, t2, M2, Q, Rep.kp k2 _ _ r1, r2, h2, q2, en.kp (k1.trans k2)⟩⟩⟩
theorem h_bin {op : Operator} {r : R3} (ho : OpR3 X (binaryOp op) r) (ha : HE X a ta) (hb : HE X b tb) : HE X (.BinOp a op b pos) (tOp3 r ta tb) := fun ρ M Q h =>
 (pe_op ho (ha.d (ρ := ρ)) (hb.d (ρ := ρ))).imp fun σ H Q2 b => dOp h b
theorem h_un {op : UnaryOp} {r : T → MH → VK3 → Prop} (ho : UnR3 X (unaryOp op) r) (ha : HE X a ta) : HE X (.UnaryOp op a pos) (tUn3 r ta) := fun ρ M Q h =>
 (pe_un ho (ha.d (ρ := ρ))).imp fun σ H Q2 ⟨hr, hh, en⟩ => ⟨M, _, h, hr, hh, fun t v M1 H1 k1 h1 r1 q1 => ⟨t, M1, Q, r1, h1, q1, en.kp k1⟩⟩
theorem h_var {i : Nat} {x : Str} (hN : X.N[i]? = some x) (hv : Vis X.env.scope x) (hd : (x == ("__debug__" : Str)) = false := by decide) (hcd : (x == ("__classdict__" : Str)) = false := by decide) : HE X (.Name x pos) (tVar3 i) := fun ρ M Q h =>
 (pe_var hN hv hd hcd).imp fun σ H Q2 ⟨hr, hh, en⟩ => by
   unfold tVar3 at h
   split at h
   · rename_i t e
     obtain ⟨v, e1, r⟩ := hr.2 i t e
     exact ⟨v, e1, en t v M H Kp.refl hh r h⟩
   · exact h.elim
theorem hv (i : Nat) {x : Str} {pos : Pos} (hN : X.N[i]? = some x := by rfl) (hv : Vis X.env.scope x := by first | exact Or.inl rfl | exact Or.inr (Or.inl rfl) | exact Or.inr (Or.inr rfl)) (hd : (x == ("__debug__" : Str)) = false := by decide)
   (hcd : (x == ("__classdict__" : Str)) = false := by decide) : HE X (.Name x pos) (tVar3 i) := h_var hN hv hd hcd
theorem rep_int {K : PySem.W.Frag} {H : Hp} {i : Int} : Rep K H (.int i) (.int i) := by unfold Rep; rfl
theorem rep_bl {K : PySem.W.Frag} {H : Hp} {i : Bool} : Rep K H (.bl i) (.bl i) := by unfold Rep; rfl
theorem rep_str {K : PySem.W.Frag} {H : Hp} {i : Str} : Rep K H (.str i) (.str i) := by unfold Rep; rfl
theorem rep_non {K : PySem.W.Frag} {H : Hp} : Rep K H .non .non := by unfold Rep; rfl
theorem rep_adr {K : PySem.W.Frag} {H : Hp} {a : Addr} : Rep K H (.ref a) (.adr a) := by unfold Rep; rfl
theorem rep_tup {K : PySem.W.Frag} {H : Hp} {a : Addr} {xs : List V} {ts : List T} (h : SqT K H a xs) (r : Reps K H xs ts) : Rep K H (.ref a) (.tup ts) := by unfold Rep; exact ⟨a, xs, rfl, h, r⟩
theorem h_const {v : V} {t : T} (h : PE X e (tC v)) (r : ∀ K H, Rep K H v t) : HE X e (tK t) := fun ρ M Q q => h.imp fun σ H Q2 ⟨hr, hh, en⟩ => en t v M H Kp.refl hh (r _ _) q
theorem h_int {i j pos} : HE X (.Constant (.int i) j pos) (tK (.int i)) := h_const pe_int fun _ _ => rep_int
theorem h_bl {b j pos} : HE X (.Constant (.bool b) j pos) (tK (.bl b)) := h_const pe_bl fun _ _ => rep_bl
theorem h_str {x j pos} : HE X (.Constant (.str x) j pos) (tK (.str x)) := h_const pe_str fun _ _ => rep_str
theorem h_globI {x : Str} {i : Int} {tk : Tok} {pos : Pos} (hm : X.mg x = some (.int i tk)) (hg : Gl X x := by rfl) (hd : (x == ("__debug__" : Str)) = false := by decide) : HE X (.Name x pos) (tK (.int i)) := h_const (v := .int i) (pe_glob hg hm ⟨tk, rfl⟩ hd) fun _ _ => rep_int
theorem inv_int {K : PySem.W.Frag} {H : Hp} {v : V} {i : Int} (r : Rep K H v (.int i)) : v = .int i := by unfold Rep at r; exact r
theorem inv_str {K : PySem.W.Frag} {H : Hp} {v : V} {i : Str} (r : Rep K H v (.str i)) : v = .str i := by unfold Rep at r; exact r
theorem inv_bl {K : PySem.W.Frag} {H : Hp} {v : V} {i : Bool} (r : Rep K H v (.bl i)) : v = .bl i := by unfold Rep at r; exact r
theorem inv_non {K : PySem.W.Frag} {H : Hp} {v : V} (r : Rep K H v .non) : v = .non := by unfold Rep at r; exact r
theorem inv_adr {K : PySem.W.Frag} {H : Hp} {v : V} {a : Addr} (r : Rep K H v (.adr a)) : v = .ref a := by unfold Rep at r; exact r
theorem inv_tup {K : PySem.W.Frag} {H : Hp} {v : V} {ts : List T} (r : Rep K H v (.tup ts)) : ∃ a xs, v = .ref a ∧ SqT K H a xs ∧ Reps K H xs ts := by unfold Rep at r; exact r
noncomputable def rInt (C : Int → Int → Prop) (g : Int → Int → Int) : R3 := fun x y M Q => match x, y with
 | .int i, .int j => C i j ∧ Q (.int (g i j)) M
 | _, _ => False
theorem op3_int {f : Value → Value → Sem Value} {C : Int → Int → Prop} {g : Int → Int → Int} (h : OpR X f (rI C fun i j => .int (g i j))) : OpR3 X f (rInt C g) := by
 intro pins s σ H x y v u Q2 I rx ry q
 obtain ⟨a, b, M, Q, r1, r2, hh, q, en⟩ := q
 unfold rInt at q
 split at q
 · obtain rfl := inv_int r1
   obtain rfl := inv_int r2
   exact h pins s σ H _ _ v u Q2 I rx ry ⟨_, _, rfl, rfl, q.1, en _ _ M H Kp.refl hh rep_int q.2⟩
 · exact q.elim
noncomputable def rSub3 : R3 := fun x y M Q => match x, y with
 | .int i, .int j => Q (.int (i - j)) M
 | _, _ => False
theorem op3_sub : OpR3 X (binaryOp .Sub) rSub3 := by
 intro pins s σ H x y v u Q2 I rx ry q
 obtain ⟨a, b, M, Q, r1, r2, hh, q, en⟩ := q
 unfold rSub3 at q
 split at q
 · obtain rfl := inv_int r1
   obtain rfl := inv_int r2
   exact op_sub pins s σ H _ _ v u Q2 I rx ry ⟨_, _, rfl, rfl, en _ _ M H Kp.refl hh rep_int q⟩
 · exact q.elim
noncomputable def CDivB (i j : Int) : Prop := 0 < j ∧ j.natAbs.log2 < 9000
theorem op_fdivB : OpR X (binaryOp .FloorDiv) (rI CDivB fun i j => .int (i / j)) := opI fun i j _ _ _ _ _ hc q => by
 have e : i.fdiv j = i / j := Int.fdiv_eq_ediv_of_nonneg i (Int.le_of_lt hc.1)
 exact floordiv_int (Int.ne_of_gt hc.1) (by rw [e]; exact q) (.inl (PyProof.noPylong_of_log2 hc.2))
noncomputable def rDiv3 : R3 := rInt CDivB fun i j => i / j
noncomputable def rMod3 : R3 := rInt (fun _ j => 0 < j) fun i j => i % j
noncomputable def rPow3 : R3 := rInt CPow fun i j => i ^ j.toNat
theorem op3_div : OpR3 X (binaryOp .FloorDiv) rDiv3 := op3_int op_fdivB
theorem op3_mod : OpR3 X (binaryOp .Mod) rMod3 := op3_int op_mod
theorem op3_pow : OpR3 X (binaryOp .Pow) rPow3 := op3_int op_pow
noncomputable def rNeg3 : T → MH → VK3 → Prop := fun x M Q => match x with
 | .int i => Q (.int (-i)) M
 | _ => False
theorem un3_neg : UnR3 X (unaryOp .USub) rNeg3 := by
 intro pins s σ H x v Q2 I rx q
 obtain ⟨a, M, Q, r1, hh, q, en⟩ := q
 unfold rNeg3 at q
 split at q
 · obtain rfl := inv_int r1
   exact un_neg pins s σ H _ v Q2 I rx ⟨_, rfl, en _ _ M H Kp.refl hh rep_int q⟩
 · exact q.elim
theorem op_catT0 : OpR X (binaryOp .Add) (fun x y H Q => ∃ a b ys, x = .ref a ∧ y = .ref b ∧ SqT X.K H a [] ∧ SqT X.K H b ys ∧ Q (.ref b) H) := by
 intro pins s σ H x y v u Q I rx ry h
 obtain ⟨a, b, ys, rfl, rfl, hx, hy, q⟩ := h
 cases rx
 cases ry
 obtain ⟨its, r, ht, hz⟩ := I.tuple hx
 obtain ⟨its2, r2, ht2, hz2⟩ := I.tuple hy
 have e : its = [] := r.nil_iff.mpr rfl
 subst e
 obtain ⟨⟨cls, dd, data, sl⟩, ho, hc, n, hd⟩ := id ht
 obtain ⟨⟨cls2, dd2, data2, sl2⟩, ho2, hc2, n2, hd2⟩ := id ht2
 simp only at hc hd hc2 hd2
 subst hc hd hc2 hd2
 exact concat_meets ⟨_, ho, rfl⟩ ⟨_, ho2, rfl⟩ noFill_tuple_add seq_tuple_add PySem.F.slot_tuple_add PySem.F.entry_tuple_add (PySem.F.args_tuple_add_2 _ _)
     (tuple_addW0 a b _ its2.toArray n n2 dd dd2 sl sl2 (by simp)) ⟨ho, ho2, ⟨.ref b, H, I, rfl, q⟩⟩
noncomputable def rAdd3 : R3 := fun x y M Q => match x, y with
 | .int i, .int j => Q (.int (i + j)) M
 | .str a, .str b => a.length + b.length ≤ sizeLine ∧ Q (.str (a ++ b)) M
 | .tup a, .tup b => a.length + b.length ≤ sizeLine ∧ Q (.tup (a ++ b)) M
 | .adr p, .adr q => match M p, M q with
   | some (.lst a), some (.lst b) => a.length + b.length ≤ sizeLine ∧ ∀ r, M r = none → Q (.adr r) (updM M r (.lst (a ++ b)))
   | _, _ => False
 | _, _ => False
theorem op3_add : OpR3 X (binaryOp .Add) rAdd3 := by
 intro pins s σ H x y v u Q2 I rx ry q
 obtain ⟨a, b, M, Q, r1, r2, hh, q, en⟩ := q
 unfold rAdd3 at q
 split at q
 · obtain rfl := inv_int r1
   obtain rfl := inv_int r2
   exact op_add pins s σ H _ _ v u Q2 I rx ry ⟨_, _, rfl, rfl, en _ _ M H Kp.refl hh rep_int q⟩
 · obtain rfl := inv_str r1
   obtain rfl := inv_str r2
   exact op_add_str pins s σ H _ _ v u Q2 I rx ry ⟨_, _, rfl, rfl, q.1, en _ _ M H Kp.refl hh rep_str q.2⟩
 · rename_i ts us
   obtain ⟨p, xs, rfl, h1, h2⟩ := inv_tup r1
   obtain ⟨p', ys, rfl, g1, g2⟩ := inv_tup r2
   have l1 := h2.length
   have l2 := g2.length
   by_cases hx : xs = []
   · subst hx
     have ht : ts = [] := List.eq_nil_of_length_eq_zero (by rw [← l1]; rfl)
     subst ht
     exact op_catT0 pins s σ H _ _ v u Q2 I rx ry ⟨_, _, ys, rfl, rfl, h1, g1, en _ _ M H Kp.refl hh (rep_tup g1 g2) q.2⟩
   · refine op_catT pins s σ H _ _ v u Q2 I rx ry ⟨_, _, xs, ys, rfl, rfl, h1, g1, hx, by rw [l1, l2]; exact q.1, fun hy => ?_, fun hy r hr => ?_⟩
     · subst hy
       have ht : us = [] := List.eq_nil_of_length_eq_zero (by rw [← l2]; rfl)
       subst ht
       have q2 := q.2
       rw [List.append_nil] at q2
       exact en _ _ M H Kp.refl hh (rep_tup h1 h2) q2
     · refine en _ _ M _ (Kp.new hr) (hh.keep hr) (rep_tup (SqT.of upd_same) ?_) q.2
       exact Reps.kp (Kp.new hr) _ _ (h2.append g2)
 · rename_i p p'
   obtain rfl := inv_adr r1
   obtain rfl := inv_adr r2
   split at q
   · rename_i ts us e1 e2
     obtain ⟨xs, h1, h2⟩ := hh _ _ e1
     obtain ⟨ys, g1, g2⟩ := hh _ _ e2
     refine op_cat pins s σ H _ _ v u Q2 I rx ry ⟨_, _, xs, ys, rfl, rfl, h1, g1, by rw [h2.length, g2.length]; exact q.1, fun r hr => ?_⟩
     exact en _ _ _ _ (Kp.new hr) (hh.newL hr (h2.append g2)) rep_adr (q.2 r (hh.free hr))
   · exact q.elim
 · exact q.elim
end
end L2
namespace L2
open PySem PySem.Spec PyProof.Rows
theorem noFill_tuple_mul : fillsNumberSlot (.type "tuple") "mul" = pure false :=
 PySem.fillsNumberSlot_seq (id := "tuple.__mul__") (r := some (.builtin "tuple.__rmul__")) F.slot_tuple_mul.lookup (by decide +kernel) F.slot_tuple_rmul.lookup (by decide +kernel)
theorem repeat_tuple : seqRepeat? (.type "tuple") = pure (some (.builtin "tuple.__mul__")) := by
 unfold seqRepeat?
 rw [PySem.seqSlot_of (T := "tuple") (name := "__mul__") (id := "tuple.__mul__") F.slot_tuple_mul.lookup (by decide +kernel), PySem.seqSlot_of (T := "tuple") (name := "__rmul__") (id := "tuple.__rmul__") F.slot_tuple_rmul.lookup (by decide +kernel)]
 rfl
section
variable (l : Addr) (items : Array Value) (n : Nat) (x : Int) (u : Tok) (dd : Option Addr) (sl : Array (Option Value))
theorem int_rmul_tuple : Meets (Builtin.«int.__rmul__» ⟨[.int x u, .ref l], []⟩) (fun _ R s => s.heap.get? l = some { cls := .type "tuple", dict := dd, data := .seq items n, slots := sl } ∧ R (.ok (.ret Value.notImplemented)) s) :=
 .of_wp fun prog w A R s h => by obtain ⟨hp, g, d, tk, os⟩ := s; obtain ⟨hl, h⟩ := h; wp_walk; exact ⟨_, rfl, h⟩
theorem tuple_mul_0 (h0 : -(2 ^ 63) ≤ x) (h1 : x < 2 ^ 63) (hc : (items.isEmpty || x == 1) = true) :
   Meets (Builtin.«tuple.__mul__» ⟨[.ref l, .int x u], []⟩) (fun _ R s => s.heap.get? l = some { cls := .type "tuple", dict := dd, data := .seq items n, slots := sl } ∧ R (.ok (.ret (Value.ref l))) s) :=
 .of_wp fun prog w A R s h => by
   obtain ⟨hp, g, d, tk, os⟩ := s; obtain ⟨hl, h⟩ := h
   have hb : ¬ (decide (x < -2 ^ 63) || decide (x ≥ 2 ^ 63)) = true := by simp; lia
   wp_walk
   rw [if_neg hb]
   wp_walk
   first | exact ⟨_, rfl, h⟩ | (rw [if_pos hc]; wp_walk; exact ⟨_, rfl, h⟩)
theorem tuple_mul_1 (h0 : -(2 ^ 63) ≤ x) (h1 : x < 2 ^ 63) (hc : ¬ (items.isEmpty || x == 1) = true) (hn : (decide (x ≤ 0) || items.isEmpty) = true) :
   Meets (Builtin.«tuple.__mul__» ⟨[.ref l, .int x u], []⟩) (fun _ R s => s.heap.get? l = some { cls := .type "tuple", dict := dd, data := .seq items n, slots := sl } ∧ R (.ok (.ret (Value.ref s.heap.objs.size))) { s with heap := s.heap.push { cls := .type "tuple", data := .seq #[] }, toks := s.toks }) :=
 .of_wp fun prog w A R s h => by
   obtain ⟨hp, g, d, tk, os⟩ := s; obtain ⟨hl, h⟩ := h
   have hb : ¬ (decide (x < -2 ^ 63) || decide (x ≥ 2 ^ 63)) = true := by simp; lia
   wp_walk
   rw [if_neg hb]
   wp_walk
   first | exact ⟨_, rfl, h⟩ | (rw [if_neg hc, if_pos hn]; wp_walk; exact ⟨_, rfl, h⟩)
theorem tuple_mul_2 (h0 : -(2 ^ 63) ≤ x) (h1 : x < 2 ^ 63) (hc : ¬ (items.isEmpty || x == 1) = true) (hn : ¬ (decide (x ≤ 0) || items.isEmpty) = true) (hm : ¬ items.size * x > (2 ^ 63 - 1) / 8) (hz : ¬ Builtin.Tuple.tupleTooMany (items.size * x) = true) (hf : sizeOk (.seq (List.foldl (fun x1 x2 => x1 ++ x2) #[] (List.replicate x.toNat items)))) :
   Meets (Builtin.«tuple.__mul__» ⟨[.ref l, .int x u], []⟩) (fun _ R s => s.heap.get? l = some { cls := .type "tuple", dict := dd, data := .seq items n, slots := sl } ∧ R (.ok (.ret (Value.ref s.heap.objs.size))) { s with heap := s.heap.push { cls := .type "tuple", data := .seq (List.foldl (fun x1 x2 => x1 ++ x2) #[] (List.replicate x.toNat items)) }, toks := s.toks }) :=
 .of_wp fun prog w A R s h => by
   obtain ⟨hp, g, d, tk, os⟩ := s; obtain ⟨hl, h⟩ := h
   have hb : ¬ (decide (x < -2 ^ 63) || decide (x ≥ 2 ^ 63)) = true := by simp; lia
   wp_walk
   rw [if_neg hb]
   wp_walk
   rw [if_neg hm]
   wp_walk
   first | exact ⟨_, rfl, h⟩ | (rw [if_neg (Nat.not_lt.mpr hf)]; wp_walk; exact ⟨_, rfl, h⟩)
end
section
variable {X : Cx}
noncomputable def rRepT (K : PySem.W.Frag) : R2 := fun x y H Q => ∃ a k xs, x = .ref a ∧ y = .int k ∧ SqT K H a xs ∧ -(2 ^ 63) ≤ k ∧ k < 2 ^ 63 ∧ xs.length * k.toNat ≤ sizeLine ∧
 ∀ p H', SqT K H' p (List.replicate k.toNat xs).flatten → (H' = H ∨ H p = none ∧ H' = upd H p (.tup (List.replicate k.toNat xs).flatten)) → Q (.ref p) H'
theorem foldl_repA (its : List Value) (m : Nat) : List.foldl (fun x1 x2 => x1 ++ x2) #[] (List.replicate m its.toArray) = (List.replicate m its).flatten.toArray := by
 have := foldl_rep its m []
 rw [List.nil_append] at this
 exact this
theorem op_repT : OpR X (binaryOp .Mult) (rRepT X.K) := by
 intro pins s σ H x y v u Q I rx ry h
 obtain ⟨a, k, xs, rfl, rfl, hx, h1, h2, hz, q⟩ := h
 cases rx
 obtain ⟨t, rfl⟩ := ry
 obtain ⟨its, r, p, hl⟩ := I.tuple hx
 have hlen := r.length
 obtain ⟨⟨cls, dd, data, sl⟩, ho, hc, n, hd⟩ := id p
 simp only at hc hd
 subst hc hd
 refine wpAny_binaryOp_repeat_ref (T := "tuple") (U := "int") (by decide) ⟨_, ho, rfl⟩ (fun s' => typeIs_int s' k t) noFill_tuple_mul F.fills_int_mul F.slot_int_rmul repeat_tuple F.slot_int_index.lookup
   (call_meets F.slot_int_rmul (typeIs_int s k t) F.entry_int_rmul (F.args_int_rmul_2 _ _) (int_rmul_tuple a its.toArray n k t dd sl) ⟨ho, rfl, ⟨_, ho, rfl⟩, ?_⟩)
 by_cases hc : (its.toArray.isEmpty || k == 1) = true
 · refine call_meets F.slot_tuple_mul ⟨_, ho, rfl⟩ F.entry_tuple_mul (F.args_tuple_mul_2 _ _) (tuple_mul_0 a its.toArray n k t dd sl h1 h2 hc) ⟨ho, ?_⟩
   have e : (List.replicate k.toNat xs).flatten = xs := by
     simp only [Bool.or_eq_true, beq_iff_eq] at hc
     rcases hc with hc | hc
     · have : its = [] := by simpa using hc
       subst this
       cases r
       simp
     · subst hc
       simp
   exact ⟨.ref a, H, I, rfl, q a H (by rw [e]; exact hx) (.inl rfl)⟩
 · by_cases hn : (decide (k ≤ 0) || its.toArray.isEmpty) = true
   · refine call_meets F.slot_tuple_mul ⟨_, ho, rfl⟩ F.entry_tuple_mul (F.args_tuple_mul_2 _ _) (tuple_mul_1 a its.toArray n k t dd sl h1 h2 hc hn) ⟨ho, ?_⟩
     have hk : k.toNat = 0 := by
       simp only [Bool.or_eq_true, decide_eq_true_eq] at hn hc
       rcases hn with hn | hn
       · lia
       · exact absurd (.inl hn) hc
     have e : (List.replicate k.toNat xs).flatten = [] := by rw [hk]; rfl
     refine ⟨.ref s.heap.objs.size, _, I.laid (t' := s.toks) (o := .tup []) (fun b ob q => Heap.get?_push_of_some _ q) (Nat.le_refl _) ?_, rfl, q _ _ ?_ (.inr ⟨I.hok.fresh (Nat.le_refl _), by rw [e]⟩)⟩
     · exact ⟨Nat.zero_le _, [], .nil, IsTup0.new _ _⟩
     · rw [e]; exact SqT.of upd_same
   · have hm : (its.toArray.size : Int) * k ≤ sizeLine := by
       have : its.toArray.size = xs.length := by rw [hlen]; simp
       rw [this]
       have hk : (0 : Int) ≤ k := by
         simp only [Bool.or_eq_true, decide_eq_true_eq] at hn
         lia
       have e2 : k = ((k.toNat : Nat) : Int) := by lia
       rw [e2, ← Int.natCast_mul]
       exact_mod_cast hz
     have hz2 : ((List.replicate k.toNat its).flatten).length ≤ sizeLine := by rw [len_rep, Nat.mul_comm, ← hlen]; exact hz
     refine call_meets F.slot_tuple_mul ⟨_, ho, rfl⟩ F.entry_tuple_mul (F.args_tuple_mul_2 _ _) (tuple_mul_2 a its.toArray n k t dd sl h1 h2 hc hn ?_ ?_ ?_) ⟨ho, ?_⟩
     · have : (sizeLine : Int) ≤ (2 ^ 63 - 1) / 8 := by decide
       lia
     · unfold Builtin.Tuple.tupleTooMany
       simp only [decide_eq_true_eq]
       lia
     · rw [foldl_repA]
       show (List.replicate k.toNat its).flatten.toArray.size ≤ sizeLine
       rw [List.size_toArray]
       exact hz2
     · rw [foldl_repA]
       refine ⟨.ref s.heap.objs.size, _, I.laid (t' := s.toks) (o := .tup (List.replicate k.toNat xs).flatten) (fun b ob q => Heap.get?_push_of_some _ q) (Nat.le_refl _) ?_, rfl, q _ _ (SqT.of upd_same) (.inr ⟨I.hok.fresh (Nat.le_refl _), rfl⟩)⟩
       exact ⟨by rw [len_rep, Nat.mul_comm]; exact hz, _, r.rep k.toNat, IsTup0.new _ _⟩
end
end L2
namespace L2
open PySem PySem.Spec PyProof.Rows
theorem Reps.atI {K : PySem.W.Frag} {H : Hp} {vs : List V} {ts : List T} {i : Int} {t : T} (h : Reps K H vs ts) (e : atI ts i = some t) : ∃ v, L2.atI vs i = some v ∧ Rep K H v t := by
 unfold L2.atI at e ⊢
 rw [h.length]
 cases q : ixN ts.length i with
 | none => rw [q] at e; cases e
 | some j => rw [q] at e; exact h.get e
section
variable {X : Cx} {a b c e : Expr} {es : List Expr} {ta tb tc te : TE3} {pos : Pos}
noncomputable def rIx3 : R3 := fun x y M Q => match x, y with
 | .tup ts, .int i => (match atI ts i with | some t => Q t M | none => False)
 | .rd ts, .int i => (match atI ts i with | some t => Q t M | none => False)
 | .adr p, .int i => (match M p with | some (.lst ts) => (match atI ts i with | some t => Q t M | none => False) | _ => False)
 | .str z, .int i => z.length ≤ sizeLine ∧ (match atI z.cps.toList i with | some c => Q (.str ⟨#[c]⟩) M | none => False)
 | _, _ => False
theorem inv_rd {K : PySem.W.Frag} {H : Hp} {v : V} {ts : List T} (r : Rep K H v (.rd ts)) : ∃ a xs, v = .ref a ∧ FzL K H a xs ∧ Reps K H xs ts := by unfold Rep at r; exact r
theorem ix3 : IxR3 X rIx3 := by
 intro value slice pins s σ H x y v u Q2 I rx ry q hs
 obtain ⟨a, b, M, Q, r1, r2, hh, q, en⟩ := q
 unfold rIx3 at q
 split at q
 · obtain rfl := inv_int r2
   obtain ⟨p, xs, rfl, h1, h2⟩ := inv_tup r1
   split at q
   · rename_i t e
     obtain ⟨w, ew, rw'⟩ := h2.atI e
     exact ix_tup value slice pins s σ H _ _ v u Q2 I rx ry ⟨_, _, _, w, rfl, rfl, h1, ew, en _ _ M H Kp.refl hh rw' q⟩ hs
   · exact q.elim
 · obtain rfl := inv_int r2
   obtain ⟨p, xs, rfl, h1, h2⟩ := inv_rd r1
   split at q
   · rename_i t e
     obtain ⟨w, ew, rw'⟩ := h2.atI e
     exact ix_list value slice pins s σ H _ _ v u Q2 I rx ry ⟨_, _, _, w, rfl, rfl, h1.sq, ew, en _ _ M H Kp.refl hh rw' q⟩ hs
   · exact q.elim
 · obtain rfl := inv_int r2
   obtain rfl := inv_adr r1
   split at q
   · rename_i ts e0
     obtain ⟨xs, h1, h2⟩ := hh _ _ e0
     split at q
     · rename_i t e
       obtain ⟨w, ew, rw'⟩ := h2.atI e
       exact ix_list value slice pins s σ H _ _ v u Q2 I rx ry ⟨_, _, _, w, rfl, rfl, SqL.of h1, ew, en _ _ M H Kp.refl hh rw' q⟩ hs
     · exact q.elim
   · exact q.elim
 · obtain rfl := inv_int r2
   obtain rfl := inv_str r1
   obtain ⟨hz, q⟩ := q
   split at q
   · rename_i c e
     exact ix_str value slice pins s σ H _ _ v u Q2 I rx ry ⟨_, _, c, rfl, rfl, hz, e, en _ _ M H Kp.refl hh rep_str q⟩ hs
   · exact q.elim
 · exact q.elim
theorem h_ix (ha : HE X a ta) (hb : HE X b tb) (hs : PlainIx b := by intro _ _; rfl) : HE X (.Subscript a b pos) (tOp3 rIx3 ta tb) := fun ρ M Q h =>
 (pe_ix ix3 (ha.d (ρ := ρ)) (hb.d (ρ := ρ)) hs).imp fun σ H Q2 b => dOp h b
noncomputable def rMul3 : R3 := fun x y M Q => match x, y with
 | .int i, .int j => CMul i j ∧ Q (.int (i * j)) M
 | .adr p, .int k => (match M p with
   | some (.lst ts) => -(2 ^ 63) ≤ k ∧ k < 2 ^ 63 ∧ ts.length * k.toNat ≤ sizeLine ∧ ∀ r, M r = none → Q (.adr r) (updM M r (.lst (List.replicate k.toNat ts).flatten))
   | _ => False)
 | .tup ts, .int k => -(2 ^ 63) ≤ k ∧ k < 2 ^ 63 ∧ ts.length * k.toNat ≤ sizeLine ∧ Q (.tup (List.replicate k.toNat ts).flatten) M
 | _, _ => False
theorem Reps.rep {K : PySem.W.Frag} {H : Hp} {vs : List V} {ts : List T} (h : Reps K H vs ts) : ∀ k : Nat, Reps K H (List.replicate k vs).flatten (List.replicate k ts).flatten
 | 0 => .nil
 | k + 1 => by
   rw [List.replicate_succ, List.replicate_succ, List.flatten_cons, List.flatten_cons]
   exact Reps.append h (Reps.rep h k)
theorem op3_mul : OpR3 X (binaryOp .Mult) rMul3 := by
 intro pins s σ H x y v u Q2 I rx ry q
 obtain ⟨a, b, M, Q, r1, r2, hh, q, en⟩ := q
 unfold rMul3 at q
 split at q
 · obtain rfl := inv_int r1
   obtain rfl := inv_int r2
   exact op_mul pins s σ H _ _ v u Q2 I rx ry ⟨_, _, rfl, rfl, q.1, en _ _ M H Kp.refl hh rep_int q.2⟩
 · obtain rfl := inv_adr r1
   obtain rfl := inv_int r2
   split at q
   · rename_i ts e0
     obtain ⟨xs, h1, h2⟩ := hh _ _ e0
     obtain ⟨q1, q2, q3, q4⟩ := q
     refine op_rep pins s σ H _ _ v u Q2 I rx ry ⟨_, _, xs, rfl, rfl, h1, q1, q2, by rw [h2.length]; exact q3, fun r hr => ?_⟩
     exact en _ _ _ _ (Kp.new hr) (hh.newL hr (h2.rep _)) rep_adr (q4 r (hh.free hr))
   · exact q.elim
 · obtain ⟨l, xs, rfl, g1, g2⟩ := inv_tup r1
   obtain rfl := inv_int r2
   obtain ⟨q1, q2, q3, q4⟩ := q
   refine op_repT pins s σ H _ _ v u Q2 I rx ry ⟨_, _, xs, rfl, rfl, g1, q1, q2, by rw [g2.length]; exact q3, fun r H' h' c => ?_⟩
   rcases c with rfl | ⟨c1, rfl⟩
   · exact en _ _ _ _ Kp.refl hh (rep_tup h' (g2.rep _)) q4
   · exact en _ _ _ _ (Kp.new c1) (hh.keep c1) (rep_tup h' (Reps.kp (Kp.new c1) _ _ (g2.rep _))) q4
 · exact q.elim
noncomputable def rCmp3 (g : Int → Int → Bool) : R3 := fun x y M Q => match x, y with
 | .int i, .int j => Q (.bl (g i j)) M
 | _, _ => False
theorem op3_cmp {f : Value → Value → Sem Value} {g : Int → Int → Bool} (h : OpR X f (rI0 fun i j => .bl (g i j))) : OpR3 X f (rCmp3 g) := by
 intro pins s σ H x y v u Q2 I rx ry q
 obtain ⟨a, b, M, Q, r1, r2, hh, q, en⟩ := q
 unfold rCmp3 at q
 split at q
 · obtain rfl := inv_int r1
   obtain rfl := inv_int r2
   exact h pins s σ H _ _ v u Q2 I rx ry ⟨_, _, rfl, rfl, en _ _ M H Kp.refl hh rep_bl q⟩
 · exact q.elim
noncomputable def rLt3 : R3 := rCmp3 fun i j => decide (i < j)
noncomputable def rLe3 : R3 := rCmp3 fun i j => decide (i ≤ j)
noncomputable def rGt3 : R3 := rCmp3 fun i j => decide (j < i)
noncomputable def rGe3 : R3 := rCmp3 fun i j => decide (j ≤ i)
theorem op3_lt : OpR3 X (compareOp .Lt) rLt3 := op3_cmp op_lt
theorem op3_le : OpR3 X (compareOp .LtE) rLe3 := op3_cmp op_le
theorem op3_gt : OpR3 X (compareOp .Gt) rGt3 := op3_cmp op_gt
theorem op3_ge : OpR3 X (compareOp .GtE) rGe3 := op3_cmp op_ge
noncomputable def rEqv (g : Bool → Bool) : R3 := fun x y M Q => match x, y with
 | .adr p, .adr q => (match M p, M q with
   | some (.lst a), some (.lst b) => pureTs a = true ∧ pureTs b = true ∧ depTs a ≤ 30 ∧ Q (.bl (g (eqTs a b))) M
   | _, _ => False)
 | x, y => pureT x = true ∧ pureT y = true ∧ depT x ≤ 30 ∧ Q (.bl (g (eqT x y))) M
noncomputable def rEq3 : R3 := rEqv id
noncomputable def rNe3 : R3 := rEqv not
theorem lists_eqv {pins : List (Addr × Obj)} {σ : St} {H : Hp} {s : Shared} (I : Inv X pins σ H s) (hu : X.A.units + 64 < cLine) {p p' : Addr} {xs ys : List V} {ts us : List T} (h1 : H p = some (.lst xs)) (h2 : Reps X.K H xs ts) (g1 : H p' = some (.lst ys)) (g2 : Reps X.K H ys us)
   (px : pureTs ts = true) (py : pureTs us = true) (hd : depTs ts ≤ 30) :
   SeqAt.RcAt X.A s (.ref p) (.ref p') (eqTs ts us) ∧ SeqAt.RcNeAt X.A s (.ref p) (.ref p') (!(eqTs ts us)) := by
 obtain ⟨its, r1, pl, _⟩ := I.list (SqL.of h1)
 obtain ⟨its2, r2, pl2, _⟩ := I.list (SqL.of g1)
 have l1 := h2.length
 have l2 := g2.length
 have m1 := r1.length
 have m2 := r2.length
 have hu' : X.A.units < cLine := by lia
 by_cases hl : its.length = its2.length
 · have he := items_eq (X := X) (A := X.A.in1) (s := s) (n := 30) px py hd h2 g2 r1 r2 fun x y v u a b hx px py rx ry ra rb => (eqAt_T I 30 X.A.in1 x y v u a b hx (by show X.A.units + 1 + 30 + 1 < cLine; lia) px py rx ry ra rb).1
   have hsz : its.toArray.size = its2.toArray.size := by simpa using hl
   have rc := SeqAt.RcAt.lists (A := X.A) pl.isList pl2.isList hsz hu' he
   have rn := SeqAt.RcNeAt.lists (A := X.A) pl.isList pl2.isList hsz hu' he
   have ee : (List.range its.toArray.size).all (eqJ ts us) = eqTs ts us := by
     rw [← eqTs_range, List.size_toArray, ← l1, ← l2, m1, m2, ← hl]
     simp
   rw [ee] at rc rn
   exact ⟨rc, rn⟩
 · have hne : eqTs ts us = false := by
     cases q : eqTs ts us with
     | false => rfl
     | true => have := eqTs_len q; lia
   have hsz : (its.toArray.size != its2.toArray.size) = true := by simpa using hl
   rw [hne]
   exact ⟨SeqAt.RcAt.lists_lengths pl.isList pl2.isList hsz hu', SeqAt.RcNeAt.lists_lengths pl.isList pl2.isList hsz hu'⟩
theorem op3_eq (hu : X.A.units + 64 < cLine) : OpR3 X (compareOp .Eq) rEq3 := by
 intro pins s σ H x y v u Q2 I rx ry q
 obtain ⟨a, b, M, Q, r1, r2, hh, q, en⟩ := q
 unfold rEq3 rEqv at q
 split at q
 · rename_i p p'
   split at q
   · rename_i ts us e1 e2
     obtain ⟨xs, h1, h2⟩ := hh _ _ e1
     obtain ⟨ys, g1, g2⟩ := hh _ _ e2
     obtain rfl := inv_adr r1
     obtain rfl := inv_adr r2
     cases rx
     cases ry
     exact (lists_eqv I hu h1 h2 g1 g2 q.1 q.2.1 q.2.2.1).1 _ _ _ _ ⟨.bl _, H, I, rfl, en _ _ M H Kp.refl hh rep_bl q.2.2.2⟩
   · exact q.elim
 · obtain ⟨q1, q2, q3, q⟩ := q
   exact (eqAt_T I 30 X.A a b x y v u q3 (by lia) q1 q2 r1 r2 rx ry).2.1 _ _ _ _ ⟨.bl _, H, I, rfl, en _ _ M H Kp.refl hh rep_bl q⟩
theorem op3_ne (hu : X.A.units + 64 < cLine) : OpR3 X (compareOp .NotEq) rNe3 := by
 intro pins s σ H x y v u Q2 I rx ry q
 obtain ⟨a, b, M, Q, r1, r2, hh, q, en⟩ := q
 unfold rNe3 rEqv at q
 split at q
 · rename_i p p'
   split at q
   · rename_i ts us e1 e2
     obtain ⟨xs, h1, h2⟩ := hh _ _ e1
     obtain ⟨ys, g1, g2⟩ := hh _ _ e2
     obtain rfl := inv_adr r1
     obtain rfl := inv_adr r2
     cases rx
     cases ry
     exact (lists_eqv I hu h1 h2 g1 g2 q.1 q.2.1 q.2.2.1).2 _ _ _ _ ⟨.bl _, H, I, rfl, en _ _ M H Kp.refl hh rep_bl q.2.2.2⟩
   · exact q.elim
 · obtain ⟨q1, q2, q3, q⟩ := q
   exact (eqAt_T I 30 X.A a b x y v u q3 (by lia) q1 q2 r1 r2 rx ry).2.2 _ _ _ _ ⟨.bl _, H, I, rfl, en _ _ M H Kp.refl hh rep_bl q⟩
theorem h_cmp {op : CmpOp} {r : R3} (ho : OpR3 X (compareOp op) r) (ha : HE X a ta) (hb : HE X b tb) (hm : behindInMarks op b = false) : HE X (.Compare a [op] [b] pos) (tOp3 r ta tb) := fun ρ M Q h =>
 (pe_cmpR ho (ha.d (ρ := ρ)) (hb.d (ρ := ρ)) hm).imp fun σ H Q2 b => dOp h b
noncomputable def tTest3 (t : TE3) : TT3 := fun ρ M Q => t ρ M fun x M1 => match x with
 | .bl k => Q k M1
 | _ => False
theorem end_test {K : PySem.W.Frag} {H : Hp} {Q : Bool → MH → Prop} {Q2 : Bool → Hp → Prop} (en : EndT K H Q Q2) : EndE K H (fun x M1 => match x with | .bl k => Q k M1 | _ => False) (fun x H' => ∃ k, x = .bl k ∧ Q2 k H') := by
 intro t v M' H' k h r q
 split at q
 · obtain rfl := inv_bl r
   exact ⟨_, rfl, en _ M' H' k h q⟩
 · exact q.elim
theorem h_tcmp {op : CmpOp} {r : R3} (ho : OpR3 X (compareOp op) r) (ha : HE X a ta) (hb : HE X b tb) (hm : behindInMarks op b = false) : HT X (.Compare a [op] [b] pos) (tTest3 (tOp3 r ta tb)) := fun ρ M Q h =>
 (pt_cmpR ho (ha.d (ρ := ρ)) (hb.d (ρ := ρ)) hm).imp fun σ H Q2 ⟨hr, hh, en⟩ => dOp (ta := ta) (tb := tb) (r := r) h ⟨hr, hh, end_test en⟩
noncomputable def tChain3 (r r' : R3) (ta tb tc : TE3) : TE3 := fun ρ M Q => ta ρ M fun x M1 => tb ρ M1 fun y M2 => r x y M2 fun z M3 => match z with
 | .bl k => (if k = true then tc ρ M3 fun w M4 => r' y w M4 Q else Q (.bl false) M3)
 | _ => False
theorem dChain {ρ : En} {M : MH} {Q : VK3} {r r' : R3} (h : tChain3 r r' ta tb tc ρ M Q) {σ : St} {H : Hp} {Q2 : VK} (b : bE X.K ρ M Q σ H Q2) : tChain (dR X.K r) (dR X.K r') (dE X.K ρ ta) (dE X.K ρ tb) (dE X.K ρ tc) σ H Q2 := by
 obtain ⟨hr, hh, en⟩ := b
 refine ⟨M, _, h, hr, hh, fun t v M1 H1 k1 h1 r1 q1 => ⟨M1, _, q1, hr.kp k1, h1, fun t2 v2 M2 H2 k2 h2 r2 q2 => ⟨t, t2, M2, _, Rep.kp k2 _ _ r1, r2, h2, q2, fun z v3 M3 H3 k3 h3 r3 q3 => ?_⟩⟩⟩
 split at q3
 · rename_i k
   obtain rfl := inv_bl r3
   refine ⟨k, rfl, ?_⟩
   have kk := k1.trans (k2.trans k3)
   split
   · rename_i hk
     rw [if_pos hk] at q3
     exact ⟨M3, _, q3, hr.kp kk, h3, fun t4 v4 M4 H4 k4 h4 r4 q4 => ⟨t2, t4, M4, Q, Rep.kp (k3.trans k4) _ _ r2, r4, h4, q4, en.kp (kk.trans k4)⟩⟩
   · rename_i hk
     rw [if_neg hk] at q3
     exact en _ _ M3 H3 kk h3 rep_bl q3
 · exact q3.elim
theorem h_chain {op op' : CmpOp} {r r' : R3} (ho : OpR3 X (compareOp op) r) (ho' : OpR3 X (compareOp op') r') (ha : HE X a ta) (hb : HE X b tb) (hc : HE X c tc)
   (hm : lastMarks [op, op'] [b, c] = false := by with_unfolding_all rfl) : HE X (.Compare a [op, op'] [b, c] pos) (tChain3 r r' ta tb tc) := fun ρ M Q h =>
 (pe_chain ho ho' (ha.d (ρ := ρ)) (hb.d (ρ := ρ)) (hc.d (ρ := ρ)) hm).imp fun σ H Q2 b => dChain h b
theorem h_tchain {op op' : CmpOp} {r r' : R3} (ho : OpR3 X (compareOp op) r) (ho' : OpR3 X (compareOp op') r') (ha : HE X a ta) (hb : HE X b tb) (hc : HE X c tc)
   (hm : lastMarks [op, op'] [b, c] = false := by with_unfolding_all rfl) : HT X (.Compare a [op, op'] [b, c] pos) (tTest3 (tChain3 r r' ta tb tc)) := fun ρ M Q h =>
 (pt_chain ho ho' (ha.d (ρ := ρ)) (hb.d (ρ := ρ)) (hc.d (ρ := ρ)) hm).imp fun σ H Q2 ⟨hr, hh, en⟩ => dChain (ta := ta) (tb := tb) (tc := tc) (r := r) (r' := r') h ⟨hr, hh, end_test en⟩
noncomputable def truT (M : MH) : T → Option Bool
 | .non => some false
 | .bl b => some b
 | .int i => some (i != 0)
 | .str y => if y.length ≤ sizeLine then some (decide (y.length ≠ 0)) else none
 | .tup ts => some (!ts.isEmpty)
 | .rd ts => some (!ts.isEmpty)
 | .dic _ _ => none
 | .adr p => match M p with
   | some (.lst ts) => some (!ts.isEmpty)
   | _ => none
noncomputable def tTru3 (te : TE3) : TT3 := fun ρ M Q => te ρ M fun x M1 => match truT M1 x with
 | some k => Q k M1
 | none => False
theorem empty_of {K : PySem.W.Frag} {H : Hp} {xs : List V} {ts : List T} (h : Reps K H xs ts) : (!xs.isEmpty) = !ts.isEmpty := by
 have := h.length
 cases xs <;> cases ts <;> first | rfl | (simp at this)
theorem h_truth (ha : HE X a ta) (he : ∀ whole, isTrue a X.env whole = (do let v ← whole; standAt a.pos; holding [v] (truthy v)) := by intro _; rfl) : HT X a (tTru3 ta) := fun ρ M Q h =>
 (pt_truth (ha.d (ρ := ρ)) he).imp fun σ H Q2 ⟨hr, hh, en⟩ => ⟨M, _, h, hr, hh, fun t v M1 H1 k1 h1 r1 q1 => by
   have fin : ∀ k, truT M1 t = some k → Q2 k H1 := fun k e => by
     have q : (match truT M1 t with | some k => Q k M1 | none => False) := q1
     rw [e] at q
     exact en k M1 H1 k1 h1 q
   cases t with
   | non => obtain rfl := inv_non r1; exact ⟨false, rfl, fin _ rfl⟩
   | bl b => obtain rfl := inv_bl r1; exact ⟨b, rfl, fin _ rfl⟩
   | int i => obtain rfl := inv_int r1; exact ⟨_, rfl, fin _ rfl⟩
   | str y =>
     obtain rfl := inv_str r1
     by_cases hy : y.length ≤ sizeLine
     · refine ⟨_, ⟨hy, rfl⟩, fin _ ?_⟩
       show (if y.length ≤ sizeLine then some (decide (y.length ≠ 0)) else none) = _
       rw [if_pos hy]
       congr 1
       by_cases h0 : y.length = 0
       · rw [h0]; rfl
       · have : ((y.length : Int) != 0) = true := by simpa using h0
         rw [this]; simpa using h0
     · have q : (match truT M1 (.str y) with | some k => Q k M1 | none => False) := q1
       have e : truT M1 (.str y) = none := if_neg hy
       rw [e] at q
       exact q.elim
   | tup ts =>
     obtain ⟨p, xs, rfl, g1, g2⟩ := inv_tup r1
     exact ⟨!xs.isEmpty, .inr (.inl ⟨xs, g1, rfl⟩), fin _ (by rw [empty_of g2]; rfl)⟩
   | rd ts =>
     obtain ⟨p, xs, rfl, g1, g2⟩ := inv_rd r1
     exact ⟨!xs.isEmpty, .inl ⟨xs, g1.sq, rfl⟩, fin _ (by rw [empty_of g2]; rfl)⟩
   | dic ks ts =>
     have q : (match truT M1 (.dic ks ts) with | some k => Q k M1 | none => False) := q1
     exact q.elim
   | adr p =>
     obtain rfl := inv_adr r1
     cases e0 : M1 p with
     | none =>
       have q : (match truT M1 (.adr p) with | some k => Q k M1 | none => False) := q1
       have e : truT M1 (.adr p) = none := by show (match M1 p with | some (.lst ts) => some (!ts.isEmpty) | _ => none) = none; rw [e0]
       rw [e] at q
       exact q.elim
     | some o =>
       cases o with
       | lst ts =>
         obtain ⟨xs, g1, g2⟩ := h1 _ _ e0
         exact ⟨!xs.isEmpty, .inl ⟨xs, SqL.of g1, rfl⟩, fin _ (by show (match M1 p with | some (.lst ts) => some (!ts.isEmpty) | _ => none) = _; rw [e0, empty_of g2])⟩
       | dk kvs =>
         have q : (match truT M1 (.adr p) with | some k => Q k M1 | none => False) := q1
         have e : truT M1 (.adr p) = none := by show (match M1 p with | some (.lst ts) => some (!ts.isEmpty) | _ => none) = none; rw [e0]
         rw [e] at q
         exact q.elim
       | dt kvs =>
         have q : (match truT M1 (.adr p) with | some k => Q k M1 | none => False) := q1
         have e : truT M1 (.adr p) = none := by show (match M1 p with | some (.lst ts) => some (!ts.isEmpty) | _ => none) = none; rw [e0]
         rw [e] at q
         exact q.elim
       | fz kvs =>
         have q : (match truT M1 (.adr p) with | some k => Q k M1 | none => False) := q1
         have e : truT M1 (.adr p) = none := by show (match M1 p with | some (.lst ts) => some (!ts.isEmpty) | _ => none) = none; rw [e0]
         rw [e] at q
         exact q.elim⟩
end
end L2
namespace L2
open PySem PySem.Spec PyProof.Rows
section
variable {X : Cx} {a b c e : Expr} {es rest : List Expr} {ta tb tc te : TE3} {tA tB : TT3} {t : TA3} {pos : Pos}
noncomputable def HW (X : Cx) (e : Expr) (t : TT3) : Prop := ∀ ρ M Q, t ρ M Q → PW X e (bT X.K ρ M Q)
theorem HW.d {t : TT3} {ρ : En} (h : HW X e t) : PW X e (dT X.K ρ t) := fun wh pins s σ H Q I ⟨M, Q3, q, b⟩ => h ρ M Q3 q wh pins s σ H Q I b
theorem PW.imp {t t' : TT} (h : PW X e t) (f : ∀ σ H Q, t' σ H Q → t σ H Q) : PW X e t' := fun wh pins s σ H Q I q => h wh pins s σ H Q I (f σ H Q q)
theorem HW.ht {t : TT3} (h : HW X e t) : HT X e t := fun ρ M Q q => (h ρ M Q q).pt
noncomputable def tAnd3 (t u : TT3) : TT3 := fun ρ M Q => t ρ M fun c M1 => if c = true then u ρ M1 Q else Q false M1
noncomputable def tOr3 (t u : TT3) : TT3 := fun ρ M Q => t ρ M fun c M1 => if c = true then Q true M1 else u ρ M1 Q
noncomputable def tNot3 (t : TT3) : TT3 := fun ρ M Q => t ρ M fun c M1 => Q (!c) M1
theorem h_not (ha : HT X a tA) : HT X (.UnaryOp .Not a pos) (tNot3 tA) := fun ρ M Q h =>
 (pt_not (ha.d (ρ := ρ))).imp fun σ H Q2 ⟨hr, hh, en⟩ => ⟨M, _, h, hr, hh, fun b M1 H1 k1 h1 q1 => en _ M1 H1 k1 h1 q1⟩
theorem w_and1 (ha : HT X a tA) : HW X (.BoolOp .And [a] pos) tA := fun ρ M Q h => (pw_and1 (ha.d (ρ := ρ))).imp fun σ H Q2 b => ⟨M, Q, h, b⟩
theorem w_or1 (ha : HT X a tA) : HW X (.BoolOp .Or [a] pos) tA := fun ρ M Q h => (pw_or1 (ha.d (ρ := ρ))).imp fun σ H Q2 b => ⟨M, Q, h, b⟩
theorem w_and (ha : HT X a tA) (hb : HW X (.BoolOp .And (b :: rest) pos) tB) : HW X (.BoolOp .And (a :: b :: rest) pos) (tAnd3 tA tB) := fun ρ M Q h =>
 (pw_and (ha.d (ρ := ρ)) (hb.d (ρ := ρ))).imp fun σ H Q2 ⟨hr, hh, en⟩ => ⟨M, _, h, hr, hh, fun b M1 H1 k1 h1 q1 => by
   dsimp only at q1 ⊢
   split
   · rename_i hb; rw [if_pos hb] at q1
     exact ⟨M1, Q, q1, hr.kp k1, h1, fun b' M2 H2 k2 => en b' M2 H2 (k1.trans k2)⟩
   · rename_i hb; rw [if_neg hb] at q1
     exact en _ M1 H1 k1 h1 q1⟩
theorem w_or (ha : HT X a tA) (hb : HW X (.BoolOp .Or (b :: rest) pos) tB) : HW X (.BoolOp .Or (a :: b :: rest) pos) (tOr3 tA tB) := fun ρ M Q h =>
 (pw_or (ha.d (ρ := ρ)) (hb.d (ρ := ρ))).imp fun σ H Q2 ⟨hr, hh, en⟩ => ⟨M, _, h, hr, hh, fun b M1 H1 k1 h1 q1 => by
   dsimp only at q1 ⊢
   split
   · rename_i hb; rw [if_pos hb] at q1
     exact en _ M1 H1 k1 h1 q1
   · rename_i hb; rw [if_neg hb] at q1
     exact ⟨M1, Q, q1, hr.kp k1, h1, fun b' M2 H2 k2 => en b' M2 H2 (k1.trans k2)⟩⟩
noncomputable def tOrV3 (ta tb : TE3) : TE3 := fun ρ M Q => ta ρ M fun x M1 => match x with
 | .bl c => (if c = true then Q (.bl true) M1 else tb ρ M1 Q)
 | _ => False
theorem h_one {op} (ha : HE X a ta) : HE X (.BoolOp op [a] pos) ta := fun ρ M Q h => pe_one (ha ρ M Q h)
theorem h_or (ha : HE X a ta) (hb : HE X (.BoolOp .Or (b :: rest) pos) tb) : HE X (.BoolOp .Or (a :: b :: rest) pos) (tOrV3 ta tb) := fun ρ M Q h =>
 (pe_or (ha.d (ρ := ρ)) (hb.d (ρ := ρ))).imp fun σ H Q2 ⟨hr, hh, en⟩ => ⟨M, _, h, hr, hh, fun x v M1 H1 k1 h1 r1 q1 => by
   dsimp only at q1 ⊢
   split at q1
   · rename_i c
     obtain rfl := inv_bl r1
     refine ⟨c, rfl, ?_⟩
     split
     · rename_i hc; rw [if_pos hc] at q1
       exact en _ _ M1 H1 k1 h1 rep_bl q1
     · rename_i hc; rw [if_neg hc] at q1
       exact ⟨M1, Q, q1, hr.kp k1, h1, en.kp k1⟩
   · exact q1.elim⟩
noncomputable def tNil3 : TA3 := fun _ M Q => Q [] M
noncomputable def tCons3 (ta : TE3) (tr : TA3) : TA3 := fun ρ M Q => ta ρ M fun x M1 => tr ρ M1 fun xs M2 => Q (x :: xs) M2
theorem a_nil : HA X [] tNil3 := fun ρ M Q h => pa_nil.imp fun σ H Q2 ⟨hr, hh, en⟩ => en [] [] M H Kp.refl hh .nil h
theorem a_cons (ha : HE X a ta) (hr : HA X es t) (hs : starEach (a :: es) X.env = (false, eval a X.env) :: starEach es X.env := by rfl) : HA X (a :: es) (tCons3 ta t) := fun ρ M Q h =>
 (pa_cons (ha.d (ρ := ρ)) (hr.d (ρ := ρ)) hs).imp fun σ H Q2 ⟨hr, hh, en⟩ => ⟨M, _, h, hr, hh, fun x v M1 H1 k1 h1 r1 q1 => ⟨M1, _, q1, hr.kp k1, h1, fun ts vs M2 H2 k2 h2 r2 q2 =>
   en _ _ M2 H2 (k1.trans k2) h2 (.cons (Rep.kp k2 _ _ r1) r2) q2⟩⟩
noncomputable def tTup3 (t : TA3) : TE3 := fun ρ M Q => t ρ M fun xs M1 => xs.length ≤ sizeLine ∧ Q (.tup xs) M1
noncomputable def tLst3 (t : TA3) : TE3 := fun ρ M Q => t ρ M fun xs M1 => xs.length ≤ sizeLine ∧ ∀ p, M1 p = none → Q (.adr p) (updM M1 p (.lst xs))
theorem h_tup {x1} (h : HA X es t) : HE X (.Tuple es x1 pos) (tTup3 t) := fun ρ M Q q =>
 (pe_tup (h.d (ρ := ρ))).imp fun σ H Q2 ⟨hr, hh, en⟩ => ⟨M, _, q, hr, hh, fun ts vs M1 H1 k1 h1 r1 q1 =>
   ⟨by rw [r1.length]; exact q1.1, fun p hp => en _ _ M1 _ (k1.trans (Kp.new hp)) (h1.keep hp) (rep_tup (SqT.of upd_same) (Reps.kp (Kp.new hp) _ _ r1)) q1.2⟩⟩
theorem h_lst (h : HA X es t) : HE X (.List es pos) (tLst3 t) := fun ρ M Q q =>
 (pe_lst (h.d (ρ := ρ))).imp fun σ H Q2 ⟨hr, hh, en⟩ => ⟨M, _, q, hr, hh, fun ts vs M1 H1 k1 h1 r1 q1 =>
   ⟨by rw [r1.length]; exact q1.1, fun p hp => en _ _ _ _ (k1.trans (Kp.new hp)) (h1.newL hp r1) rep_adr (q1.2 p (h1.free hp))⟩⟩
noncomputable abbrev Sp3 := List T → MH → VK3 → Prop
noncomputable def dSp (K : PySem.W.Frag) (sp : Sp3) : Sp := fun vs H Q2 _ => ∃ ts M Q, Reps K H vs ts ∧ HR K H M ∧ sp ts M Q ∧ EndE K H Q Q2
structure Df (P : Program) (w : World) (K : PySem.W.Frag) (mg : Str → Option Value) (base : Heap) (n : Nat) (x : Str) (ps : List Str) (sp : Sp3) : Prop where
 out : ∃ f fd, FnOk P w K mg base CX0 n f fd ps (dSp K sp) ∧ mg x = some (.ref f) ∧ PySem.W.keepIn K (.ref f) = true ∧ Binds K fd ps []
theorem Df.mono {P : Program} {w : World} {K : PySem.W.Frag} {mg : Str → Option Value} {base : Heap} {n m : Nat} {x : Str} {ps : List Str} {sp : Sp3} (D : Df P w K mg base n x ps sp) (h : n ≤ m) : Df P w K mg base m x ps sp := by
 obtain ⟨f, fd, F, a, b, c⟩ := D.out
 exact ⟨f, fd, F.mono h, a, b, c⟩
noncomputable def tCall3 (sp : Sp3) (t : TA3) : TE3 := fun ρ M Q => t ρ M fun ts M1 => sp ts M1 Q
theorem h_call {n : Nat} {x : Str} {ps : List Str} {sp : Sp3} {p : Pos} (D : Df X.prog X.w X.K X.mg X.base n x ps sp) (hr : Room n X.A) (ha : HA X (e :: es) t) (hg : Gl X x := by rfl) (hdb : (x == ("__debug__" : Str)) = false := by decide)
   (he : starEach (e :: es) X.env = (false, eval e X.env) :: starEach es X.env := by rfl) (hpl : (backTo pos (starEach es X.env)).any (·.1) = false := by rfl) :
   HE X (.Call (.Name x p) (e :: es) [] pos) (tCall3 sp t) := fun ρ M Q h => by
 obtain ⟨f, fd, F, hm, hk, hb⟩ := D.out
 exact (pe_call F hr hg hm hk hb .nil pass0 (ha.d (ρ := ρ)) hdb he hpl).imp fun σ H Q2 ⟨hr, hh, en⟩ => ⟨M, _, h, hr, hh, fun ts vs M1 H1 k1 h1 r1 q1 =>
   ⟨ts, M1, Q, by rw [List.append_nil]; exact r1, h1, q1, en.kp k1⟩⟩
noncomputable def tCB3 (r : List T → MH → VK3 → Prop) (t : TA3) : TE3 := fun ρ M Q => t ρ M fun ts M1 => r ts M1 Q
theorem h_callB {x : Str} {id : String} {r : List T → MH → VK3 → Prop} {p : Pos} (hc : CallR3 X (.builtin id) r) (hm : X.mg x = none) (hv : bootBuiltins x = some (.builtin id)) (ha : HA X (e :: es) t) (hg : Gl X x := by rfl) (hn : x ≠ "__name__" := by decide) (hdb : (x == ("__debug__" : Str)) = false := by decide)
   (he : starEach (e :: es) X.env = (false, eval e X.env) :: starEach es X.env := by rfl) (hpl : (backTo pos (starEach es X.env)).any (·.1) = false := by rfl) : HE X (.Call (.Name x p) (e :: es) [] pos) (tCB3 r t) := fun ρ M Q h =>
 (pe_callB hc hg hm hv (ha.d (ρ := ρ)) hn hdb he hpl).imp fun σ H Q2 ⟨hr, hh, en⟩ => ⟨M, _, h, hr, hh, fun ts vs M1 H1 k1 h1 r1 q1 => ⟨ts, M1, Q, r1, h1, q1, en.kp k1⟩⟩
theorem h_callT {x : Str} {ty : String} {r : List T → MH → VK3 → Prop} {p : Pos} (hc : CallR3 X (.type ty) r) (hm : X.mg x = none) (hv : bootBuiltins x = some (.type ty)) (ha : HA X (e :: es) t) (hg : Gl X x := by rfl) (hn : x ≠ "__name__" := by decide) (hdb : (x == ("__debug__" : Str)) = false := by decide)
   (he : starEach (e :: es) X.env = (false, eval e X.env) :: starEach es X.env := by rfl) (hpl : (backTo pos (starEach es X.env)).any (·.1) = false := by rfl) : HE X (.Call (.Name x p) (e :: es) [] pos) (tCB3 r t) := fun ρ M Q h =>
 (pe_callTy hc hg hm hv (ha.d (ρ := ρ)) hn hdb he hpl).imp fun σ H Q2 ⟨hr, hh, en⟩ => ⟨M, _, h, hr, hh, fun ts vs M1 H1 k1 h1 r1 q1 => ⟨ts, M1, Q, r1, h1, q1, en.kp k1⟩⟩
end
section
variable {X : Cx}
theorem reps1 {K : PySem.W.Frag} {H : Hp} {vs : List V} {x : T} (r : Reps K H vs [x]) : ∃ v, vs = [v] ∧ Rep K H v x := by
 unfold Reps at r
 obtain ⟨v, w, rfl, h, r⟩ := r
 unfold Reps at r
 subst r
 exact ⟨v, rfl, h⟩
theorem reps2 {K : PySem.W.Frag} {H : Hp} {vs : List V} {x y : T} (r : Reps K H vs [x, y]) : ∃ v w, vs = [v, w] ∧ Rep K H v x ∧ Rep K H w y := by
 unfold Reps at r
 obtain ⟨v, r', rfl, h, r⟩ := r
 obtain ⟨w, rfl, h'⟩ := reps1 r
 exact ⟨v, w, rfl, h, h'⟩
noncomputable def rLen3 : List T → MH → VK3 → Prop := fun xs M Q => match xs with
 | [.tup ts] => Q (.int ts.length) M
 | [.rd ts] => Q (.int ts.length) M
 | [.adr p] => (match M p with | some (.lst ts) => Q (.int ts.length) M | _ => False)
 | [.str z] => z.length ≤ sizeLine ∧ Q (.int z.length) M
 | _ => False
theorem call3_len : CallR3 X (.builtin "len") rLen3 := by
 intro pins s σ H vs us Q2 I r h
 obtain ⟨xs, M, Q, rr, hh, q, en⟩ := h
 unfold rLen3 at q
 split at q
 · obtain ⟨v, rfl, r1⟩ := reps1 rr
   obtain ⟨p, ys, rfl, g1, g2⟩ := inv_tup r1
   exact call_len_seq pins s σ H _ us Q2 I r ⟨p, ys, rfl, .inr g1, by rw [g2.length]; exact en _ _ M H Kp.refl hh rep_int q⟩
 · obtain ⟨v, rfl, r1⟩ := reps1 rr
   obtain ⟨p, ys, rfl, g1, g2⟩ := inv_rd r1
   exact call_len_seq pins s σ H _ us Q2 I r ⟨p, ys, rfl, .inl g1.sq, by rw [g2.length]; exact en _ _ M H Kp.refl hh rep_int q⟩
 · obtain ⟨v, rfl, r1⟩ := reps1 rr
   obtain rfl := inv_adr r1
   split at q
   · rename_i ts e0
     obtain ⟨ys, g1, g2⟩ := hh _ _ e0
     exact call_len_seq pins s σ H _ us Q2 I r ⟨_, ys, rfl, .inl (SqL.of g1), by rw [g2.length]; exact en _ _ M H Kp.refl hh rep_int q⟩
   · exact q.elim
 · obtain ⟨v, rfl, r1⟩ := reps1 rr
   obtain rfl := inv_str r1
   exact call_len_str pins s σ H _ us Q2 I r ⟨_, rfl, q.1, en _ _ M H Kp.refl hh rep_int q.2⟩
 · exact q.elim
noncomputable def rAbs3 : List T → MH → VK3 → Prop := fun xs M Q => match xs with
 | [.int i] => Q (.int i.natAbs) M
 | _ => False
theorem call3_abs : CallR3 X (.builtin "abs") rAbs3 := by
 intro pins s σ H vs us Q2 I r h
 obtain ⟨xs, M, Q, rr, hh, q, en⟩ := h
 unfold rAbs3 at q
 split at q
 · rename_i i
   obtain ⟨v, rfl, r1⟩ := reps1 rr
   obtain rfl := inv_int r1
   refine call_abs pins s σ H _ us Q2 I r ⟨_, rfl, en _ _ M H Kp.refl hh ?_ q⟩
   have e : (if i < 0 then -i else i) = (i.natAbs : Int) := by split <;> lia
   rw [e]; exact rep_int
 · exact q.elim
noncomputable def rTuple3 : List T → MH → VK3 → Prop := fun xs M Q => match xs with
 | [.tup ts] => Q (.tup ts) M
 | [.rd ts] => Q (.tup ts) M
 | [.adr p] => (match M p with | some (.lst ts) => Q (.tup ts) M | _ => False)
 | _ => False
theorem call3_tuple : CallR3 X (.type "tuple") rTuple3 := by
 intro pins s σ H vs us Q2 I r h
 obtain ⟨xs, M, Q, rr, hh, q, en⟩ := h
 unfold rTuple3 at q
 split at q
 · obtain ⟨v, rfl, r1⟩ := reps1 rr
   obtain ⟨p, ys, rfl, g1, g2⟩ := inv_tup r1
   exact call_tuple_of pins s σ H _ us Q2 I r ⟨p, ys, rfl, .inr ⟨g1, en _ _ M H Kp.refl hh r1 q⟩⟩
 · obtain ⟨v, rfl, r1⟩ := reps1 rr
   obtain ⟨p, ys, rfl, g1, g2⟩ := inv_rd r1
   exact call_tuple_of pins s σ H _ us Q2 I r ⟨p, ys, rfl, .inl ⟨g1.sq, fun l hl => en _ _ M _ (Kp.new hl) (hh.keep hl) (rep_tup (SqT.of upd_same) (Reps.kp (Kp.new hl) _ _ g2)) q⟩⟩
 · obtain ⟨v, rfl, r1⟩ := reps1 rr
   obtain rfl := inv_adr r1
   split at q
   · rename_i ts e0
     obtain ⟨ys, g1, g2⟩ := hh _ _ e0
     exact call_tuple_of pins s σ H _ us Q2 I r ⟨_, ys, rfl, .inl ⟨SqL.of g1, fun l hl => en _ _ M _ (Kp.new hl) (hh.keep hl) (rep_tup (SqT.of upd_same) (Reps.kp (Kp.new hl) _ _ g2)) q⟩⟩
   · exact q.elim
 · exact q.elim
noncomputable def rInt3 : List T → MH → VK3 → Prop := fun xs M Q => match xs with
 | [.int i] => Q (.int i) M
 | [.bl k] => Q (.int (if k = true then 1 else 0)) M
 | [.str x] => ∃ n, PySem.intText? x = some n ∧ x.length ≤ 640 ∧ Q (.int n) M
 | _ => False
theorem call3_int : CallR3 X (.type "int") rInt3 := by
 intro pins s σ H vs us Q2 I r h
 obtain ⟨xs, M, Q, rr, hh, q, en⟩ := h
 unfold rInt3 at q
 split at q
 · obtain ⟨v, rfl, r1⟩ := reps1 rr
   obtain rfl := inv_int r1
   exact call_int1 pins s σ H _ us Q2 I r (.inl ⟨_, rfl, en _ _ M H Kp.refl hh rep_int q⟩)
 · obtain ⟨v, rfl, r1⟩ := reps1 rr
   obtain rfl := inv_bl r1
   exact call_int1 pins s σ H _ us Q2 I r (.inr ⟨_, rfl, en _ _ M H Kp.refl hh rep_int q⟩)
 · obtain ⟨n, hn, hl, q⟩ := q
   obtain ⟨v, rfl, r1⟩ := reps1 rr
   obtain rfl := inv_str r1
   obtain ⟨u, rfl, ru⟩ := vals1 r
   obtain ⟨t, rfl⟩ := ru
   exact PySem.W.KIN.call_text hn hl ⟨.int n, H, I.kept fun b o e => e, ⟨_, rfl⟩, en _ _ M H Kp.refl hh rep_int q⟩
 · exact q.elim
theorem call_all_bools (hc : X.calm = true) : CallR X (.builtin "all") (fun xs H Q => ∃ (p : Addr) (bs : List Bool), xs = [.ref p] ∧ SqL X.K H p (bs.map V.bl) ∧ Q (.bl (bs.all id)) H) := by
 intro pins s σ H xs us Q I r h
 obtain ⟨p, bs, rfl, hq, q⟩ := h
 obtain ⟨u, rfl, rx⟩ := vals1 r
 cases rx
 obtain ⟨its, r', pl, hz⟩ := I.list hq
 have hlen := r'.length
 refine call_all_walk (wpAny_pyIter_list pl.isList ?_)
 have hp : p < s.heap.objs.size := by obtain ⟨o, n, e, _⟩ := pl; exact Heap.lt_size e
 refine ⟨s.heap.objs.size, _, _, _, _, _, fun i => (bs[i]?).getD true, rfl, Walks.list (A := X.A.in1) (I.ok.hd hc) s.heap.objs.size p (Nat.ne_of_lt hp) its.toArray, ⟨⟨_, Heap.get?_push_size _ rfl, rfl, rfl⟩, pl.isList.push _⟩, ?_, fun h' tk hk => ?_⟩
 · intro i v s' Q' E' hP hQ
   have hP' : its[i]? = some v := by simpa using hP
   have hi : i < bs.length := by
     have := (List.getElem?_eq_some_iff.mp hP').1
     rw [List.length_map] at hlen; lia
   obtain ⟨w, hw, rw'⟩ := r'.get (i := i) (x := .bl bs[i]) (by rw [List.getElem?_map, List.getElem?_eq_getElem hi] <;> rfl)
   rw [hP'] at hw; cases hw
   obtain rfl : v = Value.bool bs[i] := rw'
   refine wpAny_truthy_bool ?_
   have e : (bs[i]?).getD true = bs[i] := by rw [List.getElem?_eq_getElem hi] <;> rfl
   dsimp only at hQ; rw [e] at hQ; exact hQ
 · have e : (List.range its.toArray.size).all (fun i => (bs[i]?).getD true) = bs.all id := by
     rw [List.length_map] at hlen
     rw [List.size_toArray, ← hlen]
     rw [Bool.eq_iff_iff]
     simp only [List.all_eq_true, List.mem_range, id]
     constructor
     · intro h b hb
       obtain ⟨i, hi, rfl⟩ := List.getElem_of_mem hb
       have := h i hi
       rw [List.getElem?_eq_getElem hi] at this; exact this
     · intro h i hi
       rw [List.getElem?_eq_getElem hi]; exact h _ (List.getElem_mem hi)
   rw [e]
   have I1 : Inv X pins σ H { s with heap := h', toks := tk } := I.kept fun b o eb => hk b o (by
     intro hm
     have : b = s.heap.objs.size := by simpa using hm
     rw [this] at eb
     exact absurd (Heap.lt_size eb) (Nat.lt_irrefl _)) (Heap.get?_push_of_some _ eb)
   exact ⟨.bl _, H, I1, rfl, q⟩
noncomputable def bools : List T → Option (List Bool)
 | [] => some []
 | .bl b :: ts => (bools ts).map (b :: ·)
 | _ :: _ => none
theorem bools_reps {K : PySem.W.Frag} {H : Hp} : ∀ {vs : List V} {ts : List T} {bs : List Bool}, Reps K H vs ts → bools ts = some bs → vs = bs.map V.bl
 | vs, [], bs, h, e => by unfold bools at e; cases e; unfold Reps at h; exact h
 | vs, t :: ts, bs, h, e => by
   unfold Reps at h
   obtain ⟨v, r, rfl, h1, h2⟩ := h
   cases t with
   | bl b =>
     unfold bools at e
     cases q : bools ts with
     | none => rw [q] at e; cases e
     | some cs =>
       rw [q] at e; cases e
       obtain rfl := inv_bl h1
       rw [bools_reps h2 q]; rfl
   | _ => unfold bools at e; cases e
noncomputable def rAll3 : List T → MH → VK3 → Prop := fun xs M Q => match xs with
 | [.adr p] => (match M p with | some (.lst ts) => (match bools ts with | some bs => Q (.bl (bs.all id)) M | none => False) | _ => False)
 | _ => False
theorem call3_all (hc : X.calm = true) : CallR3 X (.builtin "all") rAll3 := by
 intro pins s σ H vs us Q2 I r h
 obtain ⟨xs, M, Q, rr, hh, q, en⟩ := h
 unfold rAll3 at q
 split at q
 · obtain ⟨v, rfl, r1⟩ := reps1 rr
   obtain rfl := inv_adr r1
   split at q
   · rename_i ts e0
     obtain ⟨ys, g1, g2⟩ := hh _ _ e0
     split at q
     · rename_i bs eb
       obtain rfl := bools_reps g2 eb
       exact call_all_bools hc pins s σ H _ us Q2 I r ⟨_, bs, rfl, SqL.of g1, en _ _ M H Kp.refl hh rep_bl q⟩
     · exact q.elim
   · exact q.elim
 · exact q.elim
end
end L2
namespace L2
open PySem PySem.Spec PyProof.Rows
section
variable {X : Cx} {a b c e : Expr} {st : Stmt} {rest ba bb body : List Stmt} {ta tb te : TE3} {tA : TT3} {t u : TS3} {pos : Pos}
noncomputable def tNext3 : TS3 := fun D ρ M => D.nx ρ M
noncomputable def tSeq3 (t u : TS3) : TS3 := fun D ρ M => t { D with nx := u D } ρ M
theorem EndS.nx' {K : PySem.W.Frag} {H : Hp} {D : Ends3} {D2 : Ends} {t : TS3} (h : EndS K H D D2) : EndS K H { D with nx := t D } { D2 with nx := dS K t D2 } :=
 ⟨fun ρ' M' σ' H' k r hh q => ⟨D, ρ', M', q, r, hh, h.kp k⟩, h.rt, h.bk, h.ct⟩
theorem ss_nil : HSs X [] tNext3 := fun D ρ M h => pss_nil.imp fun D2 σ H ⟨hr, hh, en⟩ => en.nx ρ M σ H Kp.refl hr hh h
theorem ss_cons (h1 : HS X st t) (h2 : HSs X rest u) : HSs X (st :: rest) (tSeq3 t u) := fun D ρ M h =>
 (pss_cons h1.d h2.d).imp fun D2 σ H ⟨hr, hh, en⟩ => ⟨{ D with nx := u D }, ρ, M, h, hr, hh, en.nx'⟩
theorem ss_one (h1 : HS X st t) : HSs X [st] t := fun D ρ M h => pss_one (h1 D ρ M h)
noncomputable def tRet3 (te : TE3) : TS3 := fun D ρ M => te ρ M D.rt
theorem s_ret (he : HE X e te) : HS X (.Return (some e) pos) (tRet3 te) := fun D ρ M h =>
 (ps_ret (he.d (ρ := ρ))).imp fun D2 σ H ⟨hr, hh, en⟩ => ⟨M, _, h, hr, hh, en.rt⟩
noncomputable def tIfS3 (c : TT3) (t u : TS3) : TS3 := fun D ρ M => c ρ M fun b M1 => if b = true then t D ρ M1 else u D ρ M1
theorem s_if (hc : HT X c tA) (ha : HSs X ba t) (hb : HSs X bb u) : HS X (.If c ba bb pos) (tIfS3 tA t u) := fun D ρ M h =>
 (ps_if (hc.d (ρ := ρ)) ha.d hb.d).imp fun D2 σ H ⟨hr, hh, en⟩ => ⟨M, _, h, hr, hh, fun b M1 H1 k1 h1 q1 => by
   dsimp only at q1 ⊢
   split
   · rename_i hb; rw [if_pos hb] at q1
     exact ⟨D, ρ, M1, q1, hr.kp k1, h1, en.kp k1⟩
   · rename_i hb; rw [if_neg hb] at q1
     exact ⟨D, ρ, M1, q1, hr.kp k1, h1, en.kp k1⟩⟩
noncomputable def tNever3 : TS3 := fun _ _ _ => False
theorem s_never : HS X st tNever3 := fun _ _ _ h => h.elim
noncomputable def tDrop3 (te : TE3) : TS3 := fun D ρ M => te ρ M fun _ M1 => D.nx ρ M1
theorem s_expr (he : HE X e te) (hs : swapsWith e none pos.line X.env = pure false := by rfl) : HS X (.Expr e pos) (tDrop3 te) := fun D ρ M h =>
 (ps_expr (he.d (ρ := ρ)) hs).imp fun D2 σ H ⟨hr, hh, en⟩ => ⟨M, _, h, hr, hh, fun x v M1 H1 k1 h1 r1 q1 => en.nx ρ M1 σ H1 k1 (hr.kp k1) h1 q1⟩
noncomputable def tSet3 (i : Nat) (te : TE3) : TS3 := fun D ρ M => te ρ M fun x M1 => D.nx (ρ.set i (some x)) M1
theorem s_set {i : Nat} {x : Str} {pos' : Pos} (he : HE X e te) (hN : X.N.Nodup) (hi : X.N[i]? = some x := by rfl) (hx : Loc X.env.scope x := by first | exact Or.inl rfl | exact Or.inr rfl) (hs : swapsWith e (some (.Name x pos')) pos.line X.env = pure false := by rfl)
   (hf : X.fn x = true ∨ X.env.scope.names.lookup x = some .local := by first | exact .inl rfl | exact .inr rfl | assumption) : HS X (.Assign [.Name x pos'] e pos) (tSet3 i te) := fun D ρ M h =>
 (ps_set hN hi hx (he.d (ρ := ρ)) hs hf).imp fun D2 σ H ⟨hr, hh, en⟩ => ⟨M, _, h, hr, hh, fun t v M1 H1 k1 h1 r1 q1 => en.nx _ M1 _ H1 k1 ((hr.kp k1).set i r1) h1 q1⟩
noncomputable abbrev TG3 := T → En → MH → (En → MH → Prop) → Prop
noncomputable abbrev TGs3 := List T → En → MH → (En → MH → Prop) → Prop
noncomputable def EndG (K : PySem.W.Frag) (H : Hp) (Q : En → MH → Prop) (Q2 : St → Hp → Prop) : Prop := ∀ ρ' M' σ' H', Kp K H H' → RhoR K σ' H' ρ' → HR K H' M' → Q ρ' M' → Q2 σ' H'
noncomputable def dG (K : PySem.W.Frag) (g : TG3) : TG := fun v σ H Q2 => ∃ t ρ M Q, g t ρ M Q ∧ Rep K H v t ∧ RhoR K σ H ρ ∧ HR K H M ∧ EndG K H Q Q2
noncomputable def dGs (K : PySem.W.Frag) (g : TGs3) : TGs := fun vs σ H Q2 => ∃ ts ρ M Q, g ts ρ M Q ∧ Reps K H vs ts ∧ RhoR K σ H ρ ∧ HR K H M ∧ EndG K H Q Q2
noncomputable def HG (X : Cx) (tg : Expr) (g : TG3) : Prop := PG X tg (dG X.K g)
noncomputable def HGs (X : Cx) (tgs : List Expr) (g : TGs3) : Prop := PGs X tgs (dGs X.K g)
noncomputable def gName3 (i : Nat) : TG3 := fun t ρ M Q => Q (ρ.set i (some t)) M
theorem PG.imp {tg : Expr} {g g' : TG} (h : PG X tg g) (f : ∀ v σ H Q, g' v σ H Q → g v σ H Q) : PG X tg g' := fun pins s σ H v u Q I r q => h pins s σ H v u Q I r (f v σ H Q q)
theorem PGs.imp {tg : List Expr} {g g' : TGs} (h : PGs X tg g) (f : ∀ v σ H Q, g' v σ H Q → g v σ H Q) : PGs X tg g' := fun pins s σ H v u Q I r q => h pins s σ H v u Q I r (f v σ H Q q)
theorem g_name {i : Nat} {x : Str} (hN : X.N.Nodup) (hi : X.N[i]? = some x := by rfl) (hx : Loc X.env.scope x := by first | exact Or.inl rfl | exact Or.inr rfl) (hf : X.fn x = true ∨ X.env.scope.names.lookup x = some .local := by first | exact .inl rfl | exact .inr rfl | assumption) : HG X (.Name x pos) (gName3 i) :=
 (pg_name hN hi hx hf).imp fun v σ H Q2 ⟨t, ρ, M, Q, q, r, hr, hh, en⟩ => en _ M _ H Kp.refl (hr.set i r) hh q
noncomputable def gNil3 : TGs3 := fun ts ρ M Q => ts = [] ∧ Q ρ M
noncomputable def gCons3 (g : TG3) (gs : TGs3) : TGs3 := fun ts ρ M Q => match ts with
 | t :: r => g t ρ M fun ρ1 M1 => gs r ρ1 M1 Q
 | [] => False
theorem gs_nil : HGs X [] gNil3 := pgs_nil.imp fun v σ H Q2 ⟨ts, ρ, M, Q, ⟨e, q⟩, r, hr, hh, en⟩ => by
 subst e
 unfold Reps at r
 exact ⟨r, en ρ M σ H Kp.refl hr hh q⟩
theorem gs_cons {es : List Expr} {g : TG3} {gs : TGs3} (h1 : HG X e g) (h2 : HGs X es gs) (hs : (assignEach (e :: es) X.env).map (·.2) = assign e X.env :: (assignEach es X.env).map (·.2) := by rfl) : HGs X (e :: es) (gCons3 g gs) :=
 (pgs_cons h1 h2 hs).imp fun vs σ H Q2 ⟨ts, ρ, M, Q, q, r, hr, hh, en⟩ => by
   unfold gCons3 at q
   split at q
   · rename_i t r'
     unfold Reps at r
     obtain ⟨v, vr, rfl, r1, r2⟩ := r
     exact ⟨v, vr, rfl, t, ρ, M, _, q, r1, hr, hh, fun ρ' M' σ' H' k hr' hh' q' => ⟨r', ρ', M', Q, q', Reps.kp k _ _ r2, hr', hh', fun ρ2 M2 σ2 H2 k2 => en ρ2 M2 σ2 H2 (k.trans k2)⟩⟩
   · exact q.elim
noncomputable def gTup3 (n : Nat) (gs : TGs3) : TG3 := fun t ρ M Q => match t with
 | .tup ts => ts.length = n ∧ gs ts ρ M Q
 | _ => False
theorem g_tup {es : List Expr} {k : Nat} {gs : TGs3} {n : Nat} (hc : X.calm = true) (h : HGs X es gs) (hn : (assignEach es X.env).length = n := by rfl) (hst : (assignEach es X.env).findIdx? (·.1) = none := by rfl) : HG X (.Tuple es k pos) (gTup3 n gs) :=
 (pg_tup hc h hn hst).imp fun v σ H Q2 ⟨t, ρ, M, Q, q, r, hr, hh, en⟩ => by
   unfold gTup3 at q
   split at q
   · rename_i ts
     obtain ⟨a, xs, rfl, g1, g2⟩ := inv_tup r
     exact ⟨a, xs, rfl, g1, by rw [g2.length]; exact q.1, ts, ρ, M, Q, q.2, g2, hr, hh, en⟩
   · exact q.elim
noncomputable def gSub3 (to ti : TE3) : TG3 := fun v ρ M Q => to ρ M fun o M1 => ti ρ M1 fun i M2 => match o, i with
 | .adr p, .int k => (match M2 p with
   | some (.lst ts) => (match ixN ts.length k with | some j => Q ρ (updM M2 p (.lst (ts.set j v))) | none => False)
   | _ => False)
 | _, _ => False
theorem g_sub {o i : Expr} {to ti : TE3} (ho : HE X o to) (hi : HE X i ti)
   (ha : ∀ v, assign (.Subscript o i pos) X.env v = (do
     let ov ← holding [v] (eval o X.env)
     let iv ← holding [v, ov] (eval i X.env)
     standAt pos
     holding [v, ov, iv] (setItem ov iv v)
     release [v, ov, iv] []) := by intro _; rfl) : HG X (.Subscript o i pos) (gSub3 to ti) := by
 intro pins s σ H v u Q2 I r h
 obtain ⟨t, ρ, M, Q, q, rt, hr, hh, en⟩ := h
 refine pg_sub (ho.d (ρ := ρ)) (hi.d (ρ := ρ)) set_list ha pins s σ H v u Q2 I r ?_
 refine ⟨M, _, q, hr, hh, fun ot ov M1 H1 k1 h1 r1 q1 => ⟨M1, _, q1, hr.kp k1, h1, fun it iv M2 H2 k2 h2 r2 q2 => ?_⟩⟩
 dsimp only at q2
 split at q2
 · obtain rfl := inv_adr r1
   obtain rfl := inv_int r2
   split at q2
   · rename_i ts e0
     obtain ⟨xs, g1, g2⟩ := h2 _ _ e0
     split at q2
     · rename_i j ej
       have kk := k1.trans k2
       refine ⟨_, xs, _, j, rfl, rfl, g1, by rw [g2.length]; exact ej, en _ _ σ _ (kk.trans (Kp.lst g1)) (hr.kp (kk.trans (Kp.lst g1))) (h2.setL g1 (g2.set (Rep.kp kk _ _ rt) j)) q2⟩
     · exact q2.elim
   · exact q2.elim
 · exact q2.elim
noncomputable def tAsg3 (te : TE3) (g : TG3) : TS3 := fun D ρ M => te ρ M fun x M1 => g x ρ M1 D.nx
theorem s_asg {tg : Expr} {g : TG3} (he : HE X e te) (hg : HG X tg g) (hs : swapsWithSole [tg] e pos.line X.env = pure false := by rfl) (hw : swappedStores [tg] e X.env = pure none := by rfl)
   (h1 : (assignEach [tg] X.env).map (·.2) = [assign tg X.env] := by rfl) : HS X (.Assign [tg] e pos) (tAsg3 te g) := fun D ρ M h =>
 (ps_asg (he.d (ρ := ρ)) hg hs hw h1).imp fun D2 σ H ⟨hr, hh, en⟩ => ⟨M, _, h, hr, hh, fun t v M1 H1 k1 h1 r1 q1 => ⟨t, ρ, M1, D.nx, q1, r1, hr.kp k1, h1, fun ρ' M' σ' H' k r hh' q => en.nx ρ' M' σ' H' (k1.trans k) r hh' q⟩⟩
structure It3 where
 items : List T
 stay : MH → Prop := fun _ => True
noncomputable abbrev TI3 := En → MH → (It3 → MH → Prop) → Prop
structure ItOk (K : PySem.W.Frag) (H : Hp) (J2 : It) (J : It3) : Prop where
 stop : ∀ H' M', Kp K H H' → HR K H' M' → J.stay M' → J2.stop J.items.length H'
 go : ∀ (i : Nat) (x : T) H' M', J.items[i]? = some x → Kp K H H' → HR K H' M' → J.stay M' → J2.go i H' ∧ ∀ v H'', J2.yld i H' v H'' → Kp K H' H'' ∧ HR K H'' M' ∧ Rep K H'' v x
noncomputable def HI (X : Cx) (tg iter : Expr) (wi : TI3) : Prop := ∀ ρ M R, wi ρ M R → PI X tg iter (fun σ H R2 => RhoR X.K σ H ρ ∧ HR X.K H M ∧ ∀ J J2 M' H', Kp X.K H H' → HR X.K H' M' → ItOk X.K H' J2 J → R J M' → R2 J2 H')
noncomputable def dI (K : PySem.W.Frag) (ρ : En) (wi : TI3) : TI := fun σ H R2 => ∃ M R, wi ρ M R ∧ RhoR K σ H ρ ∧ HR K H M ∧ ∀ J J2 M' H', Kp K H H' → HR K H' M' → ItOk K H' J2 J → R J M' → R2 J2 H'
theorem HI.d {tg iter : Expr} {wi : TI3} {ρ : En} (h : HI X tg iter wi) : PI X tg iter (dI X.K ρ wi) := fun pins s σ H R I ⟨M, R3, q, b⟩ => h ρ M R3 q pins s σ H R I b
theorem PI.imp {tg iter : Expr} {w w' : TI} (h : PI X tg iter w) (f : ∀ σ H R, w' σ H R → w σ H R) : PI X tg iter w' := fun pins s σ H R I q => h pins s σ H R I (f σ H R q)
noncomputable def iSeq3 (tl : TE3) : TI3 := fun ρ M R => tl ρ M fun x M1 => match x with
 | .tup ts => R ⟨ts, fun _ => True⟩ M1
 | .adr p => (match M1 p with | some (.lst ts) => R ⟨ts, fun M' => M' p = some (.lst ts)⟩ M1 | _ => False)
 | _ => False
theorem itok_tup {K : PySem.W.Frag} {H : Hp} {a : Addr} {xs : List V} {ts : List T} (h : SqT K H a xs) (r : Reps K H xs ts) : ItOk K H (Itt K a) ⟨ts, fun _ => True⟩ := by
 refine ⟨fun H' M' k hh _ => ⟨xs, k.tup _ _ h, by rw [r.length]; exact Nat.le_refl _⟩, fun i x H' M' e k hh _ => ?_⟩
 obtain ⟨v, e1, r1⟩ := r.get e
 refine ⟨⟨xs, v, k.tup _ _ h, e1⟩, fun v' H'' y => ?_⟩
 obtain ⟨rfl, y⟩ := y
 have := y xs (k.tup _ _ h)
 rw [e1] at this; cases this
 exact ⟨Kp.refl, hh, Rep.kp k _ _ r1⟩
theorem itok_lst {K : PySem.W.Frag} {H : Hp} {a : Addr} {ts : List T} : ItOk K H (Itl K a) ⟨ts, fun M' => M' a = some (.lst ts)⟩ := by
 refine ⟨fun H' M' k hh st => ?_, fun i x H' M' e k hh st => ?_⟩
 · obtain ⟨xs, g1, g2⟩ := hh _ _ st
   exact ⟨xs, SqL.of g1, by rw [g2.length]; exact Nat.le_refl _⟩
 · obtain ⟨xs, g1, g2⟩ := hh _ _ st
   obtain ⟨v, e1, r1⟩ := g2.get e
   refine ⟨⟨xs, v, SqL.of g1, e1⟩, fun v' H'' y => ?_⟩
   obtain ⟨rfl, y⟩ := y
   have := y xs (SqL.of g1)
   rw [e1] at this; cases this
   exact ⟨Kp.refl, hh, r1⟩
noncomputable def rangeT (lo : Int) (n : Nat) : List T := (List.range n).map fun i => T.int (lo + (i : Nat))
theorem itok_range {K : PySem.W.Frag} {H : Hp} {lo : Int} {n : Nat} : ItOk K H (Itr lo n) ⟨rangeT lo n, fun _ => True⟩ := by
 have hl : (rangeT lo n).length = n := by unfold rangeT; simp
 refine ⟨fun H' M' k hh _ => by show n ≤ (rangeT lo n).length; rw [hl]; exact Nat.le_refl _, fun i x H' M' e k hh _ => ?_⟩
 have hi : i < n := by have := (List.getElem?_eq_some_iff.mp e).1; rwa [hl] at this
 have ex : x = .int (lo + (i : Nat)) := by
   unfold rangeT at e
   rw [List.getElem?_map, List.getElem?_range hi] at e
   exact (Option.some.inj e).symm
 subst ex
 refine ⟨hi, fun v H'' y => ?_⟩
 obtain ⟨rfl, rfl⟩ := y
 exact ⟨Kp.refl, hh, rep_int⟩
theorem i_seq {tg l : Expr} {tl : TE3} (hl : HE X l tl) : HI X tg l (iSeq3 tl) := by
 intro ρ M R h pins s σ H R2 I b
 obtain ⟨hr, hh, en⟩ := b
 refine thn (hl ρ M _ h pins s σ H (fun v H1 => ∃ t M1, Kp X.K H H1 ∧ HR X.K H1 M1 ∧ Rep X.K H1 v t ∧ (match t with
   | .tup ts => R ⟨ts, fun _ => True⟩ M1
   | .adr p => (match M1 p with | some (.lst ts) => R ⟨ts, fun M' => M' p = some (.lst ts)⟩ M1 | _ => False)
   | _ => False)) I ⟨hr, hh, fun t v M1 H1 k1 h1 r1 q1 => ⟨t, M1, k1, h1, r1, q1⟩⟩) fun v s1 ⟨x, H1, I1, rv, t, M1, k1, h1, r1, q1⟩ => ?_
 split at q1
 · rename_i ts
   obtain ⟨a, xs, rfl, g1, g2⟩ := inv_tup r1
   cases rv
   obtain ⟨its, rv, p, hz⟩ := I1.tuple g1
   refine wpAny_pyIter_tuple (show s1.heap.IsTuple a its.toArray from p) ?_
   refine ⟨s1.heap.objs.size, [s1.heap.objs.size], _, _, H1, rfl, I1.kept (t' := s1.toks) fun b o e => Heap.get?_push_of_some _ e, turn_tuple a _, ⟨_, Heap.get?_push_size _ rfl, rfl, rfl⟩, fun b hb => ?_, en _ _ M1 H1 k1 h1 (itok_tup g1 g2) q1⟩
   have e : b = s1.heap.objs.size := by simpa using hb
   subst e
   exact I1.fpOk (Nat.le_refl _) (I1.hok.fresh (Nat.le_refl _))
 · rename_i a
   obtain rfl := inv_adr r1
   cases rv
   split at q1
   · rename_i ts e0
     obtain ⟨xs, g1, g2⟩ := h1 _ _ e0
     obtain ⟨its, rv, p, hz⟩ := I1.list (SqL.of g1)
     refine wpAny_pyIter_list p.isList ?_
     refine ⟨s1.heap.objs.size, [s1.heap.objs.size], _, _, H1, rfl, I1.kept (t' := s1.toks) fun b o e => Heap.get?_push_of_some _ e, turn_list a _, ⟨_, Heap.get?_push_size _ rfl, rfl, rfl⟩, fun b hb => ?_, en _ _ M1 H1 k1 h1 itok_lst q1⟩
     have e : b = s1.heap.objs.size := by simpa using hb
     subst e
     exact I1.fpOk (Nat.le_refl _) (I1.hok.fresh (Nat.le_refl _))
   · exact q1.elim
 · exact q1.elim
noncomputable def iRng1_3 (t : TA3) : TI3 := fun ρ M R => t ρ M fun xs M1 => match xs with
 | [.int j] => -(2 ^ 62) ≤ j ∧ j < 2 ^ 62 ∧ R ⟨rangeT 0 j.toNat, fun _ => True⟩ M1
 | _ => False
noncomputable def iRng2_3 (t : TA3) : TI3 := fun ρ M R => t ρ M fun xs M1 => match xs with
 | [.int i, .int j] => (-(2 ^ 62) ≤ i ∧ i < 2 ^ 62 ∧ -(2 ^ 62) ≤ j ∧ j < 2 ^ 62) ∧ R ⟨rangeT i (j - i).toNat, fun _ => True⟩ M1
 | _ => False
theorem i_range1 {tg : Expr} {t : TA3} {p : Pos} (hm : X.mg "range" = none) (ha : HA X [a] t) (hg : Gl X "range" := by rfl) (hs : starEach [a] X.env = [(false, eval a X.env)] := by rfl) : HI X tg (.Call (.Name "range" p) [a] [] pos) (iRng1_3 t) := fun ρ M R h =>
 (pi_range1 hg hm (ha.d (ρ := ρ)) hs).imp fun σ H R2 ⟨hr, hh, en⟩ => ⟨M, _, h, hr, hh, fun ts vs M1 H1 k1 h1 r1 q1 => by
   dsimp only at q1
   split at q1
   · rename_i j
     obtain ⟨v, rfl, rv⟩ := reps1 r1
     obtain rfl := inv_int rv
     exact ⟨j, rfl, q1.1, q1.2.1, en _ _ M1 H1 k1 h1 itok_range q1.2.2⟩
   · exact q1.elim⟩
theorem i_range2 {tg : Expr} {t : TA3} {p : Pos} (hm : X.mg "range" = none) (ha : HA X [a, b] t) (hg : Gl X "range" := by rfl) (hs : starEach [a, b] X.env = [(false, eval a X.env), (false, eval b X.env)] := by rfl) (hs2 : starEach [b] X.env = [(false, eval b X.env)] := by rfl) : HI X tg (.Call (.Name "range" p) [a, b] [] pos) (iRng2_3 t) := fun ρ M R h =>
 (pi_range2 hg hm (ha.d (ρ := ρ)) hs hs2).imp fun σ H R2 ⟨hr, hh, en⟩ => ⟨M, _, h, hr, hh, fun ts vs M1 H1 k1 h1 r1 q1 => by
   dsimp only at q1
   split at q1
   · rename_i i j
     obtain ⟨v, w', rfl, rv, rw'⟩ := reps2 r1
     obtain rfl := inv_int rv
     obtain rfl := inv_int rw'
     exact ⟨i, j, rfl, q1.1, en _ _ M1 H1 k1 h1 itok_range q1.2⟩
   · exact q1.elim⟩
noncomputable def tFor3 (wi : TI3) (g : TG3) (tb : TS3) : TS3 := fun D ρ M => wi ρ M fun J M1 => ∃ W : Nat → En → MH → Prop, W 0 ρ M1 ∧ (∀ i ρ M, W i ρ M → J.stay M) ∧
 (∀ i x ρ M, J.items[i]? = some x → W i ρ M → g x ρ M fun ρ2 M2 => tb { D with nx := W (i + 1), ct := W (i + 1), bk := D.nx } ρ2 M2) ∧ ∀ ρ M, W J.items.length ρ M → D.nx ρ M
theorem s_for {tg iter : Expr} {wi : TI3} {g : TG3} {tb : TS3} (hp : PassesOwn (model X.prog X.w) X.A X.env X.xe) (hc : X.calm = true) (hi : HI X tg iter wi) (hg : HG X tg g) (hb : HSs X body tb)
   (hs : ∀ x, foldedSetIterable iter X.env x = pure x := by intro _; rfl) : HS X (.For tg iter body [] pos) (tFor3 wi g tb) := fun D ρ0 M0 h =>
 (ps_for hp hc (hi.d (ρ := ρ0)) hg hb.d hs).imp fun D2 σ0 H0 ⟨hr0, hh0, en⟩ => ⟨M0, _, h, hr0, hh0, fun J J2 M1 H1 k1 h1 ok q1 => by
   obtain ⟨W, w0, wst, turn, fin⟩ := q1
   refine ⟨fun i m σ H => m = J.items.length - i ∧ i ≤ J.items.length ∧ Kp X.K H1 H ∧ ∃ ρ M, RhoR X.K σ H ρ ∧ HR X.K H M ∧ W i ρ M, ⟨_, rfl, Nat.zero_le _, Kp.refl, ρ0, M1, hr0.kp k1, h1, w0⟩, ?_⟩
   rintro i m σ H ⟨rfl, hi, kk, ρ, M, hr, hh, w⟩
   have st := wst i ρ M w
   by_cases hlt : i < J.items.length
   · have e : J.items[i]? = some J.items[i] := List.getElem?_eq_getElem hlt
     obtain ⟨go, yl⟩ := ok.go i _ H M e kk hh st
     refine .inr ⟨go, fun σ' H' => i + 1 ≤ J.items.length ∧ Kp X.K H1 H' ∧ ∃ ρ M, RhoR X.K σ' H' ρ ∧ HR X.K H' M ∧ W (i + 1) ρ M, fun σ' H' ⟨a, b, c⟩ => ⟨_, by lia, rfl, a, b, c⟩, fun v H' y => ?_⟩
     obtain ⟨k2, h2, r2⟩ := yl v H' y
     refine ⟨J.items[i], ρ, M, _, turn i _ ρ M e w, r2, hr.kp k2, h2, fun ρ3 M3 σ3 H3 k3 hr3 hh3 q3 => ⟨_, ρ3, M3, q3, hr3, hh3, ?_⟩⟩
     have kall := kk.trans (k2.trans k3)
     refine ⟨fun ρ4 M4 σ4 H4 k4 hr4 hh4 q4 => ⟨hlt, kall.trans k4, ρ4, M4, hr4, hh4, q4⟩, fun t v M4 H4 k4 h4 r4 q4 => en.rt t v M4 H4 (k1.trans (kall.trans k4)) h4 r4 q4, fun ρ4 M4 σ4 H4 k4 hr4 hh4 q4 => en.nx ρ4 M4 σ4 H4 (k1.trans (kall.trans k4)) hr4 hh4 q4, fun ρ4 M4 σ4 H4 k4 hr4 hh4 q4 => ⟨hlt, kall.trans k4, ρ4, M4, hr4, hh4, q4⟩⟩
   · have e : i = J.items.length := by lia
     subst e
     exact .inl ⟨ok.stop H M kk hh st, en.nx ρ M σ H (k1.trans kk) hr hh (fin ρ M w)⟩⟩
noncomputable def tWhile3 (c : TT3) (tb : TS3) : TS3 := fun D ρ M => ∃ W : Nat → En → MH → Prop, (∃ m, W m ρ M) ∧ ∀ m ρ M, W m ρ M →
 c ρ M fun b M1 => if b = true then tb { D with nx := fun ρ' M' => ∃ m', m' < m ∧ W m' ρ' M', ct := fun ρ' M' => ∃ m', m' < m ∧ W m' ρ' M', bk := D.nx } ρ M1 else D.nx ρ M1
theorem s_while {c : Expr} {tc : TT3} {tb : TS3} (hp : PassesOwn (model X.prog X.w) X.A X.env X.xe) (hc : HT X c tc) (hb : HSs X body tb) : HS X (.While c body [] pos) (tWhile3 tc tb) := by
 intro D ρ0 M0 h pins s σ H D2 I b
 obtain ⟨hr0, hh0, en⟩ := b
 obtain ⟨W, ⟨m0, w0⟩, turn⟩ := h
 refine wpAny_While (codeAny_whileLoop (fun n s' => ∃ σ' H' ρ M, Inv X pins σ' H' s' ∧ Kp X.K H H' ∧ RhoR X.K σ' H' ρ ∧ HR X.K H' M ∧ W n ρ M) ?_ m0 ⟨σ, H, ρ0, M0, I, Kp.refl, hr0, hh0, w0⟩)
 rintro n s1 ⟨σ1, H1, ρ, M, I1, k1, hr, hh, w1⟩
 refine wpAny_passesOwn hp (thn (hc ρ M _ (turn n ρ M w1) pins s1 σ1 H1 (fun b H2 => ∃ M2, Kp X.K H1 H2 ∧ HR X.K H2 M2 ∧ (if b = true then tb { D with nx := fun ρ' M' => ∃ m', m' < n ∧ W m' ρ' M', ct := fun ρ' M' => ∃ m', m' < n ∧ W m' ρ' M', bk := D.nx } ρ M2 else D.nx ρ M2)) I1 ⟨hr, hh, fun b M2 H2 k2 h2 q2 => ⟨M2, k2, h2, q2⟩⟩) fun b s2 ⟨H2, I2, M2, k2, h2, q2⟩ => ?_)
 have kk := k1.trans k2
 cases b with
 | true =>
   rw [if_pos rfl] at q2
   rw [if_pos rfl]
   refine wpAny_passesOwn hp (thn (hb _ ρ M2 q2 pins s2 σ1 H2 { nx := fun σ' H' => ∃ ρ' M', Kp X.K H2 H' ∧ RhoR X.K σ' H' ρ' ∧ HR X.K H' M' ∧ ∃ m', m' < n ∧ W m' ρ' M', rt := D2.rt, bk := D2.nx, ct := fun σ' H' => ∃ ρ' M', Kp X.K H2 H' ∧ RhoR X.K σ' H' ρ' ∧ HR X.K H' M' ∧ ∃ m', m' < n ∧ W m' ρ' M' } I2
     ⟨hr.kp k2, h2, ⟨fun ρ' M' σ' H' k r hh' q => ⟨ρ', M', k, r, hh', q⟩, en.rt.kp kk, fun ρ' M' σ' H' k r hh' q => en.nx ρ' M' σ' H' (kk.trans k) r hh' q, fun ρ' M' σ' H' k r hh' q => ⟨ρ', M', k, r, hh', q⟩⟩⟩) fun f s3 q3 => ?_)
   cases f with
   | next =>
     obtain ⟨σ3, H3, I3, ρ', M', k3, r3, h3, m', hm, w3⟩ := q3
     exact ⟨m', hm, σ3, H3, ρ', M', I3, kk.trans k3, r3, h3, w3⟩
   | cont =>
     obtain ⟨σ3, H3, I3, ρ', M', k3, r3, h3, m', hm, w3⟩ := q3
     exact ⟨m', hm, σ3, H3, ρ', M', I3, kk.trans k3, r3, h3, w3⟩
   | brk => exact q3
   | ret v => exact q3
 | false =>
   rw [if_neg Bool.false_ne_true] at q2
   rw [if_neg Bool.false_ne_true]
   exact wpAny_execs_nil ⟨σ1, H2, I2, en.nx ρ M2 σ1 H2 kk (hr.kp k2) h2 q2⟩
noncomputable def pick3 (ix : List (Option Nat)) (ρ : En) : En := ix.map fun o => match o with | some j => (ρ[j]?).join | none => none
theorem rho_pick {K : PySem.W.Frag} {σ : St} {H : Hp} {ρ : En} (ix : List (Option Nat)) (h : RhoR K σ H ρ) : RhoR K (pick ix σ) H (pick3 ix ρ) := by
 refine ⟨by unfold pick pick3; simp, fun i t e => ?_⟩
 unfold pick3 at e
 unfold pick
 rw [List.getElem?_map] at e ⊢
 cases hx : ix[i]? with
 | none => rw [hx] at e; cases e
 | some o =>
   rw [hx] at e
   cases o with
   | none =>
     have e' : (none : Option T) = some t := Option.some.inj e
     cases e'
   | some j =>
     have e' : (ρ[j]?).join = some t := Option.some.inj e
     cases hj : ρ[j]? with
     | none => rw [hj] at e'; cases e'
     | some u =>
       rw [hj] at e'
       have e2 : u = some t := e'
       subst e2
       obtain ⟨v, a, b⟩ := h.2 j t hj
       exact ⟨v, by show some ((σ[j]?).join) = some (some v); rw [a] <;> rfl, b⟩
noncomputable def tComp3 (wi : TI3) (ix : List (Option Nat)) (g : TG3) (tt : TT3) (te : TE3) : TE3 := fun ρ M Q => wi ρ M fun J M1 => ∃ W : Nat → List T → MH → Prop, W 0 [] M1 ∧ (∀ i ys M, W i ys M → J.stay M) ∧ J.items.length < sizeLine ∧
 (∀ i x ys M, J.items[i]? = some x → W i ys M → g x (pick3 ix ρ) M fun ρ2 M2 => tt ρ2 M2 fun ok M3 => if ok = true then te ρ2 M3 fun y M4 => W (i + 1) (ys ++ [y]) M4 else W (i + 1) ys M3) ∧
 ∀ ys M, W J.items.length ys M → ∀ p, M p = none → Q (.adr p) (updM M p (.lst ys))
noncomputable def HTs (X : Cx) (ifs : List Expr) (t : TT3) : Prop := ∀ ρ M Q, t ρ M Q → PTs X ifs (bT X.K ρ M Q)
noncomputable def tYes3 : TT3 := fun _ M Q => Q true M
theorem ts_nil : HTs X [] tYes3 := fun ρ M Q h pins s σ H Q2 I ⟨hr, hh, en⟩ => pts_nil pins s σ H Q2 I (en true M H Kp.refl hh h)
theorem ts_one {c : Expr} {t : TT3} (h : HT X c t) : HTs X [c] t := fun ρ M Q q => pts_one (h ρ M Q q)
end
end L2
namespace L2
open PySem PySem.Spec PyProof.Rows
noncomputable def dEx (K : PySem.W.Frag) (t : TE3) : TE := fun σ H Q2 => ∃ ρ M Q, t ρ M Q ∧ bE K ρ M Q σ H Q2
noncomputable def dTx (K : PySem.W.Frag) (t : TT3) : TT := fun σ H Q2 => ∃ ρ M Q, t ρ M Q ∧ bT K ρ M Q σ H Q2
section
variable {X : Cx} {e : Expr}
theorem HE.dx {t : TE3} (h : HE X e t) : PE X e (dEx X.K t) := fun pins s σ H Q I ⟨ρ, M, Q3, q, b⟩ => h ρ M Q3 q pins s σ H Q I b
theorem HTs.dx {ifs : List Expr} {t : TT3} (h : HTs X ifs t) : PTs X ifs (dTx X.K t) := fun pins s σ H Q I ⟨ρ, M, Q3, q, b⟩ => h ρ M Q3 q pins s σ H Q I b
structure BTg (K : PySem.W.Frag) (ix : List (Option Nat)) (g2 : TG) (g3 : TG3) : Prop where
 own : Own ix g2
 br : ∀ (t : T) (v : V) (ρ : En) (M : MH) (σ : St) (H : Hp) (Q3 : En → MH → Prop) (Q2 : St → Hp → Prop), Rep K H v t → RhoR K σ H ρ → HR K H M → g3 t ρ M Q3 → EndG K H Q3 Q2 → g2 v σ H Q2
theorem bt_name {K : PySem.W.Frag} {ix : List (Option Nat)} {i : Nat} (h : ix[i]? = some none := by rfl) : BTg K ix (gName i) (gName3 i) :=
 ⟨own_name h, fun t v ρ M σ H Q3 Q2 r hr hh q en => en _ M _ H Kp.refl (hr.set i r) hh q⟩
theorem bt_tup2 {K : PySem.W.Frag} {ix : List (Option Nat)} {i j : Nat} (h : ix[i]? = some none := by rfl) (h' : ix[j]? = some none := by rfl) : BTg K ix (gTup K 2 (gCons (gName i) (gCons (gName j) gNil))) (gTup3 2 (gCons3 (gName3 i) (gCons3 (gName3 j) gNil3))) := by
 refine ⟨own_tup (owns_cons gmono_name (own_name h) (owns_cons gmono_name (own_name h') owns_nil)), fun t v ρ M σ H Q3 Q2 r hr hh q en => ?_⟩
 unfold gTup3 at q
 split at q
 · rename_i ts
   obtain ⟨a, xs, rfl, g1, g2⟩ := inv_tup r
   obtain ⟨hl, q⟩ := q
   match ts, hl, g2, q with
   | [x, y], _, g2, q =>
     obtain ⟨v1, v2, rfl, r1, r2⟩ := reps2 g2
     refine ⟨a, _, rfl, g1, rfl, v1, [v2], rfl, v2, [], rfl, rfl, ?_⟩
     exact en _ M _ H Kp.refl ((hr.set i r1).set j r2) hh q.2
 · exact q.elim
variable {elt iter tg : Expr} {ifs : List Expr} {pos : Pos} {scope : Scope} {N' : List Str} {ix : List (Option Nat)} {wi : TI3} {g2 : TG} {g3 : TG3} {tt : TT3} {te : TE3}
theorem comp_red {X : Cx} {N' : List Str} {ix : List (Option Nat)} {wi : TI3} {g2 : TG} {g3 : TG3} {tt : TT3} {te : TE3} (bt : BTg X.K ix g2 g3) (ρ0 : En) (M0 : MH) (Q : VK3) (h : tComp3 wi ix g3 tt te ρ0 M0 Q) (σ0 : St) (H0 : Hp) (Q2 : VK) (bb : bE X.K ρ0 M0 Q σ0 H0 Q2) :
   tComp (dI X.K ρ0 wi) ix g2 (dTx X.K tt) (dEx X.K te) σ0 H0 Q2 := by
 obtain ⟨hr0, hh0, en⟩ := bb
 exact ⟨M0, _, h, hr0, hh0, fun J J2 M1 H1 k1 h1 ok q1 => by
   obtain ⟨W, w0, wst, hsz, turn, fin⟩ := q1
   refine ⟨fun i m ys H => m = J.items.length - i ∧ i ≤ J.items.length ∧ ys.length ≤ i ∧ Kp X.K H1 H ∧ ∃ ts M, Reps X.K H ys ts ∧ HR X.K H M ∧ W i ts M, ⟨_, rfl, Nat.zero_le _, Nat.zero_le _, Kp.refl, [], M1, .nil, h1, w0⟩, ?_⟩
   rintro i m ys H ⟨rfl, hi, hy, kk, ts, M, rts, hh, w⟩
   have st := wst i ts M w
   by_cases hlt : i < J.items.length
   · have e : J.items[i]? = some J.items[i] := List.getElem?_eq_getElem hlt
     obtain ⟨go, yl⟩ := ok.go i _ H M e kk hh st
     refine .inr ⟨go, by lia, fun v H' y => ?_⟩
     obtain ⟨k2, h2, r2⟩ := yl v H' y
     have kk2 := kk.trans k2
     refine bt.br J.items[i] v _ M _ H' _ _ r2 (rho_pick ix (hr0.kp (k1.trans kk2))) h2 (turn i _ ts M e w) fun ρ3 M3 σ3 H3 k3 hr3 hh3 q3 => ⟨ρ3, M3, _, q3, hr3, hh3, fun b M4 H4 k4 h4 q4 => ?_⟩
     have kk4 := kk2.trans (k3.trans k4)
     dsimp only at q4 ⊢
     cases b with
     | true =>
       rw [if_pos rfl] at q4 ⊢
       refine ⟨ρ3, M4, _, q4, hr3.kp k4, h4, fun t5 v5 M5 H5 k5 h5 r5 q5 => ⟨_, Nat.sub_lt_sub_left hlt (Nat.lt_succ_self i), rfl, hlt, ?_, kk4.trans k5, ts ++ [t5], M5, ?_, h5, q5⟩⟩
       · rw [List.length_append, List.length_singleton]; lia
       · exact (Reps.kp (k2.trans (k3.trans (k4.trans k5))) _ _ rts).append (.cons r5 .nil)
     | false =>
       rw [if_neg Bool.false_ne_true] at q4 ⊢
       exact ⟨_, Nat.sub_lt_sub_left hlt (Nat.lt_succ_self i), rfl, hlt, by lia, kk4, ts, M4, Reps.kp (k2.trans (k3.trans k4)) _ _ rts, h4, q4⟩
   · have e : i = J.items.length := by lia
     subst e
     refine .inl ⟨ok.stop H M kk hh st, by lia, fun p hp => ?_⟩
     exact en _ _ _ _ (k1.trans (kk.trans (Kp.new hp))) (hh.newL hp rts) rep_adr (fin ts M w p (hh.free hp))⟩
theorem h_comp (hc : X.calm = true) (hi : HI X tg iter wi) (S : BlkScope X N' ix scope) (bt : BTg X.K ix g2 g3) (hg : ∀ C s H fp pins, PG (blk X N' scope C s H fp pins) tg g2)
   (ht : ∀ C s H fp pins, HTs (blk X N' scope C s H fp pins) ifs tt) (he : ∀ C s H fp pins, HE (blk X N' scope C s H fp pins) elt te)
   (hs : ∀ x, foldedSetIterable iter X.env x = pure x := by intro _; rfl) :
   HE X (.ListComp elt [⟨tg, iter, ifs, 0⟩] scope pos) (tComp3 wi ix g3 tt te) := fun ρ0 M0 Q h =>
 (pe_comp (tt := dTx X.K tt) (te := dEx X.K te) hc (hi.d (ρ := ρ0)) S bt.own hg (fun C s H fp pins => (ht C s H fp pins).dx) (fun C s H fp pins => (he C s H fp pins).dx) hs).imp fun σ0 H0 Q2 bb => comp_red (X := X) (N' := N') bt ρ0 M0 Q h σ0 H0 Q2 bb
theorem s_setC {i : Nat} {x : Str} {pos' spos : Pos} (hc : X.calm = true) (hi : HI X tg iter wi) (S : BlkScope X N' ix scope) (bt : BTg X.K ix g2 g3) (hg : ∀ C s H fp pins, PG (blk X N' scope C s H fp pins) tg g2)
   (ht : ∀ C s H fp pins, HTs (blk X N' scope C s H fp pins) ifs tt) (he : ∀ C s H fp pins, HE (blk X N' scope C s H fp pins) elt te) (hN : X.N.Nodup) (hi' : X.N[i]? = some x := by rfl) (hx : Loc X.env.scope x := by first | exact Or.inl rfl | exact Or.inr rfl)
   (hsw : swapsWith (.ListComp elt [⟨tg, iter, ifs, 0⟩] scope pos) (some (.Name x pos')) spos.line X.env = pure true := by rfl)
   (hs : ∀ x, foldedSetIterable iter X.env x = pure x := by intro _; rfl) (hf : X.fn x = true ∨ X.env.scope.names.lookup x = some .local := by first | exact .inl rfl | exact .inr rfl | assumption) :
   HS X (.Assign [.Name x pos'] (.ListComp elt [⟨tg, iter, ifs, 0⟩] scope pos) spos) (tSet3 i (tComp3 wi ix g3 tt te)) := fun D ρ M h =>
 (ps_setC (tt := dTx X.K tt) (te := dEx X.K te) hN hi' hx hc (hi.d (ρ := ρ)) S bt.own hg (fun C s H fp pins => (ht C s H fp pins).dx) (fun C s H fp pins => (he C s H fp pins).dx) hsw hs hf).imp fun D2 σ H ⟨hr, hh, en⟩ =>
   comp_red (X := X) (N' := N') bt ρ M (fun x M1 => D.nx (ρ.set i (some x)) M1) h σ H _ ⟨hr, hh, fun t v M1 H1 k1 h1 r1 q1 => en.nx _ M1 _ H1 k1 ((hr.kp k1).set i r1) h1 q1⟩
noncomputable def start3 (N : List Str) (ts : List T) : En := ts.map some ++ List.replicate (N.length - ts.length) none
theorem rho_start {K : PySem.W.Frag} {H : Hp} {N : List Str} {vs : List V} {ts : List T} (r : Reps K H vs ts) : RhoR K (start N vs) H (start3 N ts) := by
 have hl := r.length
 refine ⟨by unfold start start3; simp [hl], fun i t e => ?_⟩
 unfold start3 at e
 unfold start
 by_cases hi : i < ts.length
 · rw [List.getElem?_append_left (by simpa using hi), List.getElem?_map] at e
   cases q : ts[i]? with
   | none => rw [q] at e; cases e
   | some u =>
     rw [q] at e
     cases e
     obtain ⟨v, a, b⟩ := r.get q
     refine ⟨v, ?_, b⟩
     rw [List.getElem?_append_left (by simpa [hl] using hi), List.getElem?_map, a]
     rfl
 · rw [List.getElem?_append_right (by simpa using hi), List.getElem?_replicate] at e
   split at e <;> cases e
noncomputable def rt3 (M : MH) (Q : VK3) : VK3 := fun t M' => ∃ M0, Sub M0 M' ∧ Q t M0
end
section
variable {P : Program} {w : World} {K : PySem.W.Frag} {mg : Str → Option Value} {base : Heap}
theorem Fun.fnk {x qual : Str} {st : Stmt} {f : Addr} {fd : FuncData} {N ps : List Str} {n : Nat} {sp : Sp3} (F : Fun K x qual st f fd) (S : FnScope N ps (defScope st)) (len : ∀ ts M Q, sp ts M Q → ts.length = ps.length)
   (hbody : ∃ t : TS3, (∀ (cdv : Value) (A : Around) (outer : List Env) (s : Shared) (H : Hp) (E : XK), Room n (A.deeper (envOfC qual (defScope st) s.heap.objs.size f cdv)) →
     HSs (cxOf CX0 P w K mg base N qual (defScope st) f cdv A outer s H E).nox (defBody st) t) ∧
     ∀ ts M Q, sp ts M Q → t { nx := fun _ M' => rt3 M Q .non M', rt := rt3 M Q } (start3 N ts) M) : FnOk P w K mg base CX0 (n + 1) f fd ps (dSp K sp) := by
 obtain ⟨t, hbody, rd⟩ := hbody
 refine F.ok S (fun vs H Q E ⟨ts, M, Q3, r, _, q, _⟩ => by rw [r.length]; exact len _ _ _ q) (fun cdv A outer s H vs Q E hr ⟨ts, M, Q3, r, hh, q, en⟩ => ?_)
 refine ⟨_, hbody cdv A outer s H E hr _ _ _ (rd ts M Q3 q), rho_start r, hh, ⟨?_, ?_, fun _ _ _ _ _ _ _ z => z.elim, fun _ _ _ _ _ _ _ z => z.elim⟩⟩
 · rintro ρ' M' σ' H' k hr' hh' ⟨M0, hs, q'⟩
   exact en .non .non M0 H' k (hh'.sub hs) rep_non q'
 · rintro t' v' M' H' k hh' r' ⟨M0, hs, q'⟩
   exact en t' v' M0 H' k (hh'.sub hs) r' q'
theorem Fun.dfn {x qual : Str} {st : Stmt} {f : Addr} {fd : FuncData} {N ps : List Str} {n : Nat} {sp : Sp3} (F : Fun K x qual st f fd) (hm : mg x = some (.ref f)) (hb : Binds K fd ps []) (S : FnScope N ps (defScope st)) (len : ∀ ts M Q, sp ts M Q → ts.length = ps.length)
   (hbody : ∃ t : TS3, (∀ (cdv : Value) (A : Around) (outer : List Env) (s : Shared) (H : Hp) (E : XK), Room n (A.deeper (envOfC qual (defScope st) s.heap.objs.size f cdv)) →
     HSs (cxOf CX0 P w K mg base N qual (defScope st) f cdv A outer s H E).nox (defBody st) t) ∧
     ∀ ts M Q, sp ts M Q → t { nx := fun _ M' => rt3 M Q .non M', rt := rt3 M Q } (start3 N ts) M) : Df P w K mg base (n + 1) x ps sp :=
 ⟨f, fd, F.fnk S len hbody, hm, F.kp, hb⟩
end
theorem law_walk {l : PySem.W.OpenLaw} {k : Nat} {q : Program} {loose : List Str} {XP : (Str → Option Value) → Heap → Prop} {YP : World → Heap → Prop} {d : DefRec} {K : Params → PySem.W.Frag} {sp : Sp3}
   (hn : l.most = some 63) (hdf : d.params.defaults = []) (hr : Room k callerA) (hY : ∀ (w : World) (h : Heap), YP w h → (K w.params).In h)
   (hs : ∀ (ns : List Int) M Q, ns.length ≤ 63 → Q (.bl true) M → sp [.rd (ns.map .int)] M Q)
   (F : ∀ (w : World) (mg : Str → Option Value) (fa : Addr) (h : Heap), (K w.params).In h → h.Ns mainGlobals mg → mg d.name = some (.ref fa) →
     ∃ fd : FuncData, (∀ (s : Shared) (u : Value), BindsTo s fd ⟨[u], []⟩ [("script", u)]) ∧ ∀ base : Heap, (K w.params).In base → base.Ns mainGlobals mg → FnOk l.prog w (K w.params) mg base CX0 k fa fd ["script"] (dSp (K w.params) sp)) :
   PySem.W.WalkO q loose XP YP l.row.toRowW d [] (fun f vs => PySem.call f vs) := by
 refine L2.walk_of (n := 63) (k := k) (x := "script") (CX := fun _ => CX0) (sp := fun w => dSp (K w.params) sp) hn (by decide) hdf hr hY F (fun w H a ns hl hO hS => ?_) fun _ _ _ _ _ z => z
 have fz : FzL (K w.params) H a (ns.map V.int) := by
   rcases hS with (h | ⟨o, h⟩) | h
   · rcases hO a with z | ⟨ob, xs, z⟩
     · rw [h] at z; cases z
     · rw [h] at z; cases z
   · exact .inl ⟨o, h⟩
   · exact .inr h
 refine ⟨[.rd (ns.map .int)], fun _ => none, fun t _ => t = .bl true, .cons ?_ .nil, (fun _ _ z => by cases z), hs ns _ (fun t _ => t = .bl true) hl rfl, fun t v M' H' _ _ r e => ?_⟩
 · unfold Rep
   exact ⟨a, _, rfl, fz, Reps.of_ints ns⟩
 · subst e
   exact inv_bl r
end L2
namespace L2
open PySem PySem.Spec PyProof.Rows
theorem vals_of_get : ∀ {xs : List V} {us : List Value}, xs.length = us.length → (∀ (j : Nat) x, xs[j]? = some x → ∃ u, us[j]? = some u ∧ RelV x u) → Vals xs us
 | [], [], _, _ => .nil
 | [], _ :: _, h, _ => by simp at h
 | _ :: _, [], h, _ => by simp at h
 | x :: xs, u :: us, h, g => by
   refine .cons ?_ (vals_of_get (by simpa using h) fun j y e => ?_)
   · obtain ⟨w, e, r⟩ := g 0 x rfl
     have : u = w := by simpa using e
     subst this; exact r
   · obtain ⟨w, e', r⟩ := g (j + 1) y (by simpa using e)
     exact ⟨w, by simpa using e', r⟩
noncomputable def rangeV (lo : Int) (n : Nat) : List V := (List.range n).map fun i => V.int (lo + (i : Nat))
theorem rangeV_reps {K : PySem.W.Frag} {H : Hp} (lo : Int) (n : Nat) : Reps K H (rangeV lo n) (rangeT lo n) := by
 have e1 : rangeV lo n = ((List.range n).map fun i => lo + ((i : Nat) : Int)).map V.int := by unfold rangeV; rw [List.map_map]; rfl
 have e2 : rangeT lo n = ((List.range n).map fun i => lo + ((i : Nat) : Int)).map T.int := by unfold rangeT; rw [List.map_map]; rfl
 rw [e1, e2]; exact Reps.of_ints _
section
variable {X : Cx} {a b e : Expr} {es : List Expr} {ta te : TE3} {t : TA3} {pos : Pos}
noncomputable def isLst (M : MH) (x : T) : Prop := match x with
 | .adr p => (match M p with | some (.lst _) => True | _ => False)
 | _ => False
noncomputable abbrev RM3 := T → List T → MH → VK3 → Prop
noncomputable def dM (K : PySem.W.Frag) (r : RM3) : V → List V → Hp → VK → Prop := fun v vs H Q2 => ∃ x xs M Q, Rep K H v x ∧ Reps K H vs xs ∧ HR K H M ∧ r x xs M Q ∧ EndE K H Q Q2
noncomputable def MtR3 (X : Cx) (id : String) (r : RM3) : Prop := MtR X id (dM X.K r)
noncomputable def tLM3 (r : RM3) (to : TE3) (t : TA3) : TE3 := fun ρ M Q => to ρ M fun x M1 => isLst M1 x ∧ t ρ M1 fun xs M2 => r x xs M2 Q
theorem isLst_ty {K : PySem.W.Frag} {H : Hp} {M : MH} {x : T} {v : V} (hh : HR K H M) (r : Rep K H v x) (h : isLst M x) : tyV K "list" v H := by
 unfold isLst at h
 split at h
 · rename_i p
   split at h
   · rename_i ts e
     obtain ⟨xs, g1, _⟩ := hh _ _ e
     obtain rfl := inv_adr r
     exact .inl ⟨rfl, xs, SqL.of g1⟩
   · exact h.elim
 · exact h.elim
theorem h_lm {o : Expr} {to : TE3} {name : Str} {apos cpos : Pos} {id : String} {r : RM3} (slot : Slot "list" name id) (hty : typeOf (.builtin id) = pure (.type "method_descriptor")) (hm : MtR3 X id r) (ho : HE X o to) (ha : HA X (e :: es) t)
   (hbase : attributeBase o name X.env (eval o X.env) = eval o X.env := by rfl)
   (hfew : ((backTo cpos (starEach (e :: es) X.env)).all (fun x => !x.1) && (backToKw cpos (keywordEach [] X.env)).all (fun x => x.1.isSome)
     && decide ((e :: es).length + ([] : List Keyword).length + (if ([] : List Keyword).isEmpty then 0 else 1) < 30)) = true := by rfl)
   (hline : (apos.endLine == cpos.line) = true := by rfl) (hs : starEach (e :: es) X.env = (false, eval e X.env) :: starEach es X.env := by rfl) (hplain : (backTo cpos (starEach es X.env)).any (·.1) = false := by rfl) :
   HE X (.Call (.Attribute o name apos) (e :: es) [] cpos) (tLM3 r to t) := fun ρ M Q h =>
 (pe_bm PySem.F.plainAttrs_list slot hty hm (ho.d (ρ := ρ)) (ha.d (ρ := ρ)) hbase hfew hline hs hplain).imp fun σ H Q2 ⟨hr, hh, en⟩ => ⟨M, _, h, hr, hh, fun x v M1 H1 k1 h1 r1 q1 => ⟨isLst_ty h1 r1 q1.1, M1, _, q1.2, hr.kp k1, h1, fun ts vs M2 H2 k2 h2 r2 q2 =>
   ⟨x, ts, M2, Q, Rep.kp k2 _ _ r1, r2, h2, q2, en.kp (k1.trans k2)⟩⟩⟩
noncomputable def rApp3 : RM3 := fun x xs M Q => match x, xs with
 | .adr p, [y] => (match M p with | some (.lst ts) => ts.length < sizeLine ∧ Q .non (updM M p (.lst (ts ++ [y]))) | _ => False)
 | _, _ => False
theorem mt3_append : MtR3 X "list.append" rApp3 := by
 intro pins s σ H v vs u us Q2 I rv rvs h
 obtain ⟨x, xs, M, Q, r1, r2, hh, q, en⟩ := h
 unfold rApp3 at q
 split at q
 · rename_i p y
   split at q
   · rename_i ts e0
     obtain ⟨ys, g1, g2⟩ := hh _ _ e0
     obtain rfl := inv_adr r1
     obtain ⟨w, rfl, rw'⟩ := reps1 r2
     exact mt_append pins s σ H _ _ u us Q2 I rv rvs ⟨_, ys, w, rfl, rfl, g1, by rw [g2.length]; exact q.1, en _ _ _ _ (Kp.lst g1) (hh.setL g1 (g2.append (.cons rw' .nil))) rep_non q.2⟩
   · exact q.elim
 · exact q.elim
noncomputable def intsT : List T → Option (List Int)
 | [] => some []
 | .int i :: ts => (intsT ts).map (i :: ·)
 | _ :: _ => none
theorem intsT_map : ∀ (ns : List Int), intsT (ns.map T.int) = some ns
 | [] => rfl
 | n :: ns => by show (intsT (ns.map T.int)).map (n :: ·) = _; rw [intsT_map ns]; rfl
theorem intsT_some : ∀ {ts : List T} {ns : List Int}, intsT ts = some ns → ts = ns.map T.int
 | [], ns, e => by unfold intsT at e; cases e; rfl
 | t :: ts, ns, e => by
   cases t with
   | int i =>
     unfold intsT at e
     cases q : intsT ts with
     | none => rw [q] at e; cases e
     | some cs => rw [q] at e; cases e; rw [intsT_some q]; rfl
   | _ => unfold intsT at e; cases e
noncomputable def rIndex3 : RM3 := fun x xs M Q => match x, xs with
 | .adr p, [.int k] => (match M p with
   | some (.lst ts) => (match intsT ts with | some ns => k ∈ ns ∧ Q (.int (ns.idxOf k)) M | none => False)
   | _ => False)
 | _, _ => False
theorem mt3_index : MtR3 X "list.index" rIndex3 := by
 intro pins s σ H v vs u us Q2 I rv rvs h
 obtain ⟨x, xs, M, Q, r1, r2, hh, q, en⟩ := h
 unfold rIndex3 at q
 split at q
 · rename_i p k
   split at q
   · rename_i ts e0
     obtain ⟨ys, g1, g2⟩ := hh _ _ e0
     obtain rfl := inv_adr r1
     obtain ⟨w, rfl, rw'⟩ := reps1 r2
     obtain rfl := inv_int rw'
     split at q
     · rename_i ns en'
       have et := intsT_some en'
       subst et
       obtain rfl := g2.ints
       cases rv
       obtain ⟨w', rfl, tk, rfl⟩ := vals1 rvs
       obtain ⟨its, r', pl, hz⟩ := I.list (SqL.of g1)
       have hl := r'.length
       rw [List.length_map] at hl hz
       obtain ⟨o, n, eo, ec, edd, ed⟩ := id pl
       obtain ⟨cls, dd, data, sl⟩ := o
       simp only at ec edd ed
       subst ec edd ed
       have hk : ns.idxOf k < ns.length := List.idxOf_lt_length_iff.mpr q.1
       have item : ∀ (j : Nat) (hj : j < its.toArray.size), ∃ tk', its.toArray[j] = Value.int (ns[j]'(by rw [List.size_toArray, ← hl] at hj; exact hj)) tk' := fun j hj => by
         have hj' : j < ns.length := by rw [List.size_toArray, ← hl] at hj; exact hj
         obtain ⟨w2, e2, tk', rfl⟩ := r'.get (i := j) (x := V.int ns[j]) (by rw [List.getElem?_map, List.getElem?_eq_getElem hj'] <;> rfl)
         have : its[j]? = some its.toArray[j] := by rw [List.getElem?_eq_getElem (by rw [List.size_toArray] at hj; exact hj)] <;> simp
         rw [e2] at this
         exact ⟨tk', (Option.some.inj this).symm⟩
       let ee : Value → Bool := fun v => match v with | .int i _ => i == k | _ => false
       have hsz := sizeLine_eq
       refine call_meets PySem.F.slot_list_index ⟨_, eo, rfl⟩ PySem.F.entry_list_index (PySem.F.args_list_index_2 _ _)
         (SeqAt.list_indexAt p its.toArray n none sl (.int k tk) ee (ns.idxOf k) (by rw [List.size_toArray, ← hl]; exact hk) (by lia) ?_ ?_) ⟨eo, fun y hy => ?_, ?_⟩
       · obtain ⟨tk', e⟩ := item (ns.idxOf k) (by rw [List.size_toArray, ← hl]; exact hk)
         rw [e]
         show (ns[ns.idxOf k] == k) = true
         simp
       · intro m hm hlt
         obtain ⟨tk', e⟩ := item m hm
         rw [e]
         show (ns[m]'_ == k) = false
         have := List.not_of_lt_findIdx (p := (· == k)) (xs := ns) (i := m) (by simpa [List.idxOf] using hlt)
         simpa using this
       · obtain ⟨j, hj, rfl⟩ := Array.getElem_of_mem hy
         obtain ⟨tk', e⟩ := item j hj
         rw [e]
         exact SeqAt.EqAt.int_int _ _ _ _
       · exact ⟨.int (ns.idxOf k), H, I.tok _, ⟨_, rfl⟩, en _ _ M H Kp.refl hh rep_int q.2⟩
     · exact q.elim
   · exact q.elim
 · exact q.elim
theorem h_m_append {o : Expr} {to : TE3} {apos cpos : Pos} (ho : HE X o to) (ha : HA X (e :: es) t)
   (hbase : attributeBase o "append" X.env (eval o X.env) = eval o X.env := by rfl)
   (hfew : ((backTo cpos (starEach (e :: es) X.env)).all (fun x => !x.1) && (backToKw cpos (keywordEach [] X.env)).all (fun x => x.1.isSome)
     && decide ((e :: es).length + ([] : List Keyword).length + (if ([] : List Keyword).isEmpty then 0 else 1) < 30)) = true := by rfl)
   (hline : (apos.endLine == cpos.line) = true := by rfl) (hs : starEach (e :: es) X.env = (false, eval e X.env) :: starEach es X.env := by rfl) (hplain : (backTo cpos (starEach es X.env)).any (·.1) = false := by rfl) :
   HE X (.Call (.Attribute o "append" apos) (e :: es) [] cpos) (tLM3 rApp3 to t) := h_lm PySem.F.slot_list_append PySem.F.type_list_append mt3_append ho ha hbase hfew hline hs hplain
end
end L2
namespace LM
noncomputable def LetOK (n l : Int) : Prop := 1 ≤ (l.natAbs : Int) ∧ (l.natAbs : Int) < n
noncomputable def WordOK (n : Int) (w : List Int) : Prop := ∀ l ∈ w, LetOK n l
noncomputable def isLet (n l : Int) : Bool := decide (1 ≤ l.natAbs) && decide ((l.natAbs : Int) < n)
noncomputable def isPl (n : Int) (w : List Int) : Bool := decide (1 ≤ n) && decide (n ≤ 6) && decide (w.length ≤ 16) && w.all (isLet n)
noncomputable def PlOK (n : Int) (w : List Int) : Prop := 1 ≤ n ∧ n ≤ 6 ∧ w.length ≤ 16 ∧ WordOK n w
theorem isLet_iff {n l : Int} : isLet n l = true ↔ LetOK n l := by
 unfold isLet LetOK
 simp only [Bool.and_eq_true, decide_eq_true_eq]
 lia
theorem PlOK.is {n : Int} {w : List Int} (h : PlOK n w) : isPl n w = true := by
 obtain ⟨h1, h2, h3, h4⟩ := h
 unfold isPl
 simp only [Bool.and_eq_true, decide_eq_true_eq, List.all_eq_true]
 exact ⟨⟨⟨h1, h2⟩, h3⟩, fun l hl => isLet_iff.mpr (h4 l hl)⟩
theorem WordOK.nil {n : Int} : WordOK n [] := fun _ z => nomatch z
theorem WordOK.append {n : Int} {u v : List Int} (h : WordOK n u) (g : WordOK n v) : WordOK n (u ++ v) := fun l hl => (List.mem_append.mp hl).elim (h l) (g l)
theorem take_succ_map {α β : Type} (f : α → β) {L : List α} {i : Nat} {x : α} (h : L[i]? = some x) : (L.take i).map f ++ [f x] = (L.take (i + 1)).map f := by
 rw [List.take_add_one, h]; simp
theorem get_map_int {α β : Type} {f : α → β} {L : List α} {i : Nat} {y : β} (h : (L.map f)[i]? = some y) : ∃ x, L[i]? = some x ∧ f x = y := by
 rw [List.getElem?_map] at h
 cases q : L[i]? with
 | none => rw [q] at h; cases h
 | some x => rw [q] at h; exact ⟨x, rfl, Option.some.inj h⟩
noncomputable def swapL (st : List Int) (l : Int) : List Int := (st.set (l.natAbs - 1) (st.getD l.natAbs 0)).set l.natAbs (st.getD (l.natAbs - 1) 0)
noncomputable def range0 (n : Int) : List Int := (List.range n.toNat).map fun i => ((i : Nat) : Int)
noncomputable def standL (n : Int) (w : List Int) : List Int := w.foldl swapL (range0 n)
noncomputable def orderL (n : Int) (w : List Int) : List Int := (range0 n).map fun s => (((standL n w).idxOf s : Nat) : Int)
noncomputable def followL (p l : Int) : Int := if (l.natAbs : Int) = p then p - 1 else if (l.natAbs : Int) = p + 1 then p + 1 else p
theorem range0_length (n : Int) : (range0 n).length = n.toNat := by unfold range0; simp
theorem swapL_length (st : List Int) (l : Int) : (swapL st l).length = st.length := by unfold swapL; simp
theorem foldl_swap_length (w : List Int) : ∀ st : List Int, (w.foldl swapL st).length = st.length := by
 induction w with
 | nil => intro st; rfl
 | cons l w ih => intro st; rw [List.foldl_cons, ih, swapL_length]
theorem standL_length (n : Int) (w : List Int) : (standL n w).length = n.toNat := by unfold standL; rw [foldl_swap_length, range0_length]
theorem standL_succ {n l : Int} {w : List Int} {i : Nat} (h : w[i]? = some l) : standL n (w.take (i + 1)) = swapL (standL n (w.take i)) l := by
 unfold standL
 rw [List.take_add_one, h, List.foldl_append]
 rfl
theorem mem_range0 {n s : Int} (h : s ∈ range0 n) : 0 ≤ s ∧ s < n := by
 unfold range0 at h
 obtain ⟨i, hi, rfl⟩ := List.mem_map.mp h
 have := List.mem_range.mp hi
 lia
theorem getD_set (l : List Int) (i j : Nat) (x d : Int) : (l.set i x).getD j d = if i = j ∧ j < l.length then x else l.getD j d := by
 rw [List.getD_eq_getElem?_getD, List.getElem?_set]
 by_cases h : i = j
 · subst h
   by_cases h2 : i < l.length
   · rw [if_pos rfl, if_pos h2, if_pos ⟨rfl, h2⟩]; rfl
   · rw [if_pos rfl, if_neg h2, if_neg (fun q => h2 q.2)]
     rw [List.getD_eq_getElem?_getD, List.getElem?_eq_none (by lia)]
 · rw [if_neg h, if_neg (fun q => h q.1), List.getD_eq_getElem?_getD]
theorem swapL_get (st : List Int) (l : Int) (h : LetOK (st.length : Int) l) (k : Nat) :
   (swapL st l).getD k 0 = if k = l.natAbs then st.getD (l.natAbs - 1) 0 else if k = l.natAbs - 1 then st.getD l.natAbs 0 else st.getD k 0 := by
 unfold LetOK at h
 unfold swapL
 rw [getD_set, getD_set, List.length_set]
 by_cases h1 : k = l.natAbs
 · subst h1
   rw [if_pos ⟨rfl, by lia⟩, if_pos rfl]
 · rw [if_neg (fun q => h1 q.1.symm), if_neg h1]
   by_cases h2 : k = l.natAbs - 1
   · subst h2
     rw [if_pos ⟨rfl, by lia⟩, if_pos rfl]
   · rw [if_neg (fun q => h2 q.1.symm), if_neg h2]
theorem follow_step (st : List Int) (l : Int) (h : LetOK (st.length : Int) l) (p s : Int) (h0 : 0 ≤ p) (h1 : p < st.length) (e : st.getD p.toNat 0 = s) :
   0 ≤ followL p l ∧ followL p l < st.length ∧ (swapL st l).getD (followL p l).toNat 0 = s := by
 have hl := h
 unfold LetOK at hl
 rw [swapL_get st l h]
 unfold followL
 by_cases h2 : (l.natAbs : Int) = p
 · rw [if_pos h2]
   refine ⟨by lia, by lia, ?_⟩
   have e1 : (p - 1).toNat = l.natAbs - 1 := by lia
   have e2 : p.toNat = l.natAbs := by lia
   rw [e1, if_neg (by lia), if_pos rfl, ← e2]; exact e
 · rw [if_neg h2]
   by_cases h3 : (l.natAbs : Int) = p + 1
   · rw [if_pos h3]
     refine ⟨by lia, by lia, ?_⟩
     have e1 : (p + 1).toNat = l.natAbs := by lia
     have e2 : p.toNat = l.natAbs - 1 := by lia
     rw [e1, if_pos rfl, ← e2]; exact e
   · rw [if_neg h3]
     refine ⟨h0, h1, ?_⟩
     rw [if_neg (by lia), if_neg (by lia)]; exact e
theorem follow_all (w : List Int) : ∀ (st : List Int) (p s : Int), WordOK (st.length : Int) w → 0 ≤ p → p < st.length → st.getD p.toNat 0 = s →
   0 ≤ w.foldl followL p ∧ w.foldl followL p < st.length ∧ (w.foldl swapL st).getD (w.foldl followL p).toNat 0 = s := by
 induction w with
 | nil => intro st p s _ h0 h1 e; exact ⟨h0, h1, e⟩
 | cons l w ih =>
   intro st p s hw h0 h1 e
   obtain ⟨a, b, c⟩ := follow_step st l (hw l List.mem_cons_self) p s h0 h1 e
   rw [List.foldl_cons, List.foldl_cons]
   have := ih (swapL st l) (followL p l) s (by rw [swapL_length]; exact fun x hx => hw x (List.mem_cons_of_mem _ hx)) a (by rw [swapL_length]; exact b) c
   rw [swapL_length] at this
   exact this
theorem range0_get (n : Int) (s : Int) (h0 : 0 ≤ s) (h1 : s < n) : (range0 n).getD s.toNat 0 = s := by
 unfold range0
 rw [List.getD_eq_getElem?_getD, List.getElem?_map, List.getElem?_range (by lia)]
 show ((s.toNat : Nat) : Int) = s
 lia
theorem stand_follow (n : Int) (w : List Int) (hw : WordOK n w) (s : Int) (h0 : 0 ≤ s) (h1 : s < n) :
   0 ≤ w.foldl followL s ∧ w.foldl followL s < n ∧ (standL n w).getD (w.foldl followL s).toNat 0 = s := by
 have hl : ((range0 n).length : Int) = n := by rw [range0_length]; lia
 have := follow_all w (range0 n) s s (by rw [hl]; exact hw) h0 (by rw [hl]; exact h1) (range0_get n s h0 h1)
 rw [hl] at this
 exact this
theorem getD_mem {l : List Int} {k : Nat} (h : k < l.length) : l.getD k 0 ∈ l := by
 rw [List.getD_eq_getElem?_getD, List.getElem?_eq_getElem h]
 exact List.getElem_mem h
theorem stand_mem (n : Int) (w : List Int) (hw : WordOK n w) (s : Int) (h0 : 0 ≤ s) (h1 : s < n) : s ∈ standL n w := by
 obtain ⟨a, b, c⟩ := stand_follow n w hw s h0 h1
 have := getD_mem (l := standL n w) (k := (w.foldl followL s).toNat) (by rw [standL_length]; lia)
 rw [c] at this; exact this
theorem range0_nodup (n : Int) : (range0 n).Nodup := by
 unfold range0
 refine List.Pairwise.map _ (fun (a b : Nat) (h : a ≠ b) => ?_) List.nodup_range
 show (a : Int) ≠ (b : Int)
 lia
theorem swapL_perm (st : List Int) (l : Int) (h : LetOK (st.length : Int) l) : (swapL st l).Perm st := by
 unfold LetOK at h
 unfold swapL
 have ha : l.natAbs - 1 < st.length := by lia
 have hb : l.natAbs < st.length := by lia
 have e1 : st.getD l.natAbs 0 = st[l.natAbs] := by rw [List.getD_eq_getElem?_getD, List.getElem?_eq_getElem hb]; rfl
 have e2 : st.getD (l.natAbs - 1) 0 = st[l.natAbs - 1] := by rw [List.getD_eq_getElem?_getD, List.getElem?_eq_getElem ha]; rfl
 rw [e1, e2]
 exact List.set_set_perm ha hb
theorem foldl_swap_perm (w : List Int) : ∀ st : List Int, WordOK (st.length : Int) w → (w.foldl swapL st).Perm st := by
 induction w with
 | nil => intro st _; exact .refl _
 | cons l w ih =>
   intro st hw
   rw [List.foldl_cons]
   exact (ih _ (by rw [swapL_length]; exact fun x hx => hw x (List.mem_cons_of_mem _ hx))).trans (swapL_perm st l (hw l List.mem_cons_self))
theorem stand_perm (n : Int) (w : List Int) (h0 : 0 ≤ n) (hw : WordOK n w) : (standL n w).Perm (range0 n) := by
 refine foldl_swap_perm w (range0 n) ?_
 have e : ((n.toNat : Nat) : Int) = n := by lia
 rw [range0_length, e]; exact hw
theorem idxOf_of_nodup {l : List Int} (nd : l.Nodup) {k : Nat} (hk : k < l.length) (x : Int) (e : l.getD k 0 = x) : l.idxOf x = k := by
 rw [List.getD_eq_getElem?_getD, List.getElem?_eq_getElem hk] at e
 have e' : l[k] = x := e
 subst e'
 exact nd.idxOf_getElem k hk
theorem idx_follow (n : Int) (w : List Int) (hw : WordOK n w) (s : Int) (h0 : 0 ≤ s) (h1 : s < n) : (((standL n w).idxOf s : Nat) : Int) = w.foldl followL s := by
 obtain ⟨a, b, c⟩ := stand_follow n w hw s h0 h1
 have nd : (standL n w).Nodup := (stand_perm n w (by lia) hw).nodup_iff.mpr (range0_nodup n)
 rw [idxOf_of_nodup nd (k := (w.foldl followL s).toNat) (by rw [standL_length]; lia) s c]
 lia
theorem orderL_get (n : Int) (w : List Int) (hw : WordOK n w) (s : Int) (h0 : 0 ≤ s) (h1 : s < n) : (orderL n w).getD s.toNat 0 = w.foldl followL s := by
 unfold orderL
 have e : (range0 n)[s.toNat]? = some s := by
   unfold range0
   rw [List.getElem?_map, List.getElem?_range (by lia)]
   show some ((s.toNat : Nat) : Int) = some s
   congr 1; lia
 rw [List.getD_eq_getElem?_getD, List.getElem?_map, e]
 exact idx_follow n w hw s h0 h1
theorem orderL_length (n : Int) (w : List Int) : (orderL n w).length = n.toNat := by unfold orderL; rw [List.length_map, range0_length]
noncomputable def contrL (w : List Int) : List Int := w.reverse.map fun l => -l
noncomputable def flipL (n l : Int) : Int := if l < 0 then -(n + l) else n - l
theorem WordOK.map {n : Int} {w : List Int} {f : Int → Int} (hf : ∀ l, LetOK n l → LetOK n (f l)) (h : WordOK n w) : WordOK n (w.map f) := fun l hl => by
 obtain ⟨k, hk, rfl⟩ := List.mem_map.mp hl
 exact hf k (h k hk)
theorem PlOK.map {n : Int} {w : List Int} {f : Int → Int} (hf : ∀ l, LetOK n l → LetOK n (f l)) (h : PlOK n w) : PlOK n (w.map f) := ⟨h.1, h.2.1, by rw [List.length_map]; exact h.2.2.1, h.2.2.2.map hf⟩
theorem followL_neg (p l : Int) : followL p (-l) = followL p l := by unfold followL; rw [Int.natAbs_neg]
theorem followL_invol (p l : Int) : followL (followL p l) l = p := by unfold followL; split <;> split <;> (try split) <;> lia
theorem followL_range {n p l : Int} (h : LetOK n l) (h0 : 0 ≤ p) (h1 : p < n) : 0 ≤ followL p l ∧ followL p l < n := by
 unfold LetOK at h; unfold followL; split <;> (try split) <;> lia
noncomputable def folL (w : List Int) (p : Int) : Int := w.foldl followL p
theorem folL_append (u v : List Int) (p : Int) : folL (u ++ v) p = folL v (folL u p) := by unfold folL; rw [List.foldl_append]
theorem folL_range {n : Int} {w : List Int} : ∀ {p : Int}, WordOK n w → 0 ≤ p → p < n → 0 ≤ folL w p ∧ folL w p < n := by
 induction w with
 | nil => intro p _ h0 h1; exact ⟨h0, h1⟩
 | cons l w ih =>
   intro p hw h0 h1
   have := followL_range (hw l (List.mem_cons_self ..)) h0 h1
   exact ih (fun k hk => hw k (List.mem_cons_of_mem _ hk)) this.1 this.2
theorem folL_neg (w : List Int) : ∀ p, folL (w.map fun l => -l) p = folL w p := by
 unfold folL
 induction w with
 | nil => intro p; rfl
 | cons l w ih => intro p; rw [List.map_cons, List.foldl_cons, List.foldl_cons, followL_neg, ih]
theorem folL_reverse (w : List Int) : ∀ p, folL w.reverse (folL w p) = p := by
 induction w with
 | nil => intro p; rfl
 | cons l w ih =>
   intro p
   rw [List.reverse_cons, folL_append]
   show folL [l] (folL w.reverse (folL w (followL p l))) = p
   rw [ih]
   exact followL_invol p l
theorem folL_contr (w : List Int) (p : Int) : folL (contrL w) (folL w p) = p := by unfold contrL; rw [folL_neg, folL_reverse]
theorem range0_mem {n s : Int} (h0 : 0 ≤ s) (h1 : s < n) : s ∈ range0 n := by
 unfold range0
 exact List.mem_map.mpr ⟨s.toNat, List.mem_range.mpr (by lia), by lia⟩
theorem orderL_map (n : Int) (w : List Int) (hw : WordOK n w) : orderL n w = (range0 n).map (folL w) := by
 unfold orderL
 refine List.map_congr_left fun s hs => ?_
 obtain ⟨h0, h1⟩ := mem_range0 hs
 exact idx_follow n w hw s h0 h1
theorem orderL_mem {n p : Int} {w : List Int} (hw : WordOK n w) (h : p ∈ orderL n w) : 0 ≤ p ∧ p < n := by
 rw [orderL_map n w hw] at h
 obtain ⟨s, hs, rfl⟩ := List.mem_map.mp h
 obtain ⟨h0, h1⟩ := mem_range0 hs
 exact folL_range hw h0 h1
end LM
namespace LM
end LM
namespace LM
end LM
namespace LM
end LM
namespace LM
end LM
namespace LM
end LM
namespace L2
open PySem PySem.Spec PyProof.Rows LM
theorem start3_cons (x : Str) (N : List Str) (t : T) (ts : List T) : start3 (x :: N) (t :: ts) = some t :: start3 N ts := by
 unfold start3
 simp only [List.map_cons, List.length_cons, Nat.add_sub_add_right, List.cons_append]
theorem start3_none (x : Str) (N : List Str) : start3 (x :: N) [] = none :: start3 N [] := by
 unfold start3
 simp only [List.map_nil, List.length_cons, List.length_nil, Nat.sub_zero, List.nil_append, List.replicate_succ]
theorem start3_nil : start3 [] [] = [] := rfl
theorem pick3_none (ix : List (Option Nat)) (ρ : En) : pick3 (none :: ix) ρ = none :: pick3 ix ρ := rfl
theorem pick3_some (j : Nat) (ix : List (Option Nat)) (ρ : En) : pick3 (some j :: ix) ρ = (ρ[j]?).join :: pick3 ix ρ := rfl
theorem pick3_nil (ρ : En) : pick3 [] ρ = [] := rfl
theorem join_some {α : Type} (a : Option α) : (some a).join = a := rfl
theorem rt3_here {M : MH} {Q : VK3} {t : T} {M' : MH} (h : Q t M') : rt3 M Q t M' := ⟨M', Sub.refl, h⟩
theorem atI_0 {α : Type} (x : α) (xs : List α) : atI (x :: xs) 0 = some x := by
 have := atI_nat (xs := x :: xs) (j := 0) (v := x) rfl
 simpa using this
theorem atI_1 {α : Type} (x y : α) (xs : List α) : atI (x :: y :: xs) 1 = some y := by
 have := atI_nat (xs := x :: y :: xs) (j := 1) (v := y) rfl
 simpa using this
theorem atI_2 {α : Type} (x y z : α) (xs : List α) : atI (x :: y :: z :: xs) 2 = some z := by
 have := atI_nat (xs := x :: y :: z :: xs) (j := 2) (v := z) rfl
 simpa using this
theorem ixN_0 (n : Nat) : ixN (n + 1) 0 = some 0 := by
 unfold ixN
 rw [if_pos (by lia), if_pos (by lia)]; rfl
theorem updM_updM {M : MH} {a : Addr} {o u : MO} : updM (updM M a o) a u = updM M a u := by
 funext b; unfold updM; split <;> rfl
theorem atI_ints (ns : List Int) (i : Int) (h0 : 0 ≤ i) (h : i < ns.length) : atI (ns.map T.int) i = some (.int (ns.getD i.toNat 0)) := by
 have e : i = ((i.toNat : Nat) : Int) := by lia
 have hl : i.toNat < ns.length := by lia
 have := atI_nat (xs := ns.map T.int) (j := i.toNat) (v := .int (ns.getD i.toNat 0)) (by
   rw [List.getElem?_map, List.getElem?_eq_getElem hl]
   simp [List.getD, List.getElem?_eq_getElem hl])
 rw [← e] at this
 exact this
theorem bools_map (bs : List Bool) : bools (bs.map T.bl) = some bs := by
 induction bs with
 | nil => rfl
 | cons b bs ih => show (bools (bs.map T.bl)).map (b :: ·) = _; rw [ih]; rfl
theorem pureTs_ints (ns : List Int) : pureTs (ns.map T.int) = true := by
 induction ns with
 | nil => rfl
 | cons n ns ih => show (pureT (.int n) && pureTs (ns.map T.int)) = true; rw [ih]; rfl
theorem depTs_ints (ns : List Int) : depTs (ns.map T.int) = 0 := by
 induction ns with
 | nil => rfl
 | cons n ns ih => show max (depT (.int n)) (depTs (ns.map T.int)) = 0; rw [ih]; rfl
theorem eqTs_ints (a b : List Int) : eqTs (a.map T.int) (b.map T.int) = decide (a = b) := by
 induction a generalizing b with
 | nil => cases b <;> simp [eqTs]
 | cons x a ih =>
   cases b with
   | nil => simp [eqTs]
   | cons y b =>
     show (eqT (.int x) (.int y) && eqTs (a.map T.int) (b.map T.int)) = _
     rw [ih]
     have : eqT (.int x) (.int y) = (x == y) := rfl
     rw [this]
     by_cases h1 : x = y <;> by_cases h2 : a = b <;> simp [h1, h2]
theorem eqT_tup (a b : List T) : eqT (.tup a) (.tup b) = eqTs a b := rfl
theorem eqT_int (a b : Int) : eqT (.int a) (.int b) = decide (a = b) := by
 show (a == b) = _
 by_cases h : a = b <;> simp [h]
theorem eqTs_cons (x y : T) (a b : List T) : eqTs (x :: a) (y :: b) = (eqT x y && eqTs a b) := rfl
theorem eqTs_nil : eqTs [] [] = true := rfl
theorem pureTs_cons (x : T) (a : List T) : pureTs (x :: a) = (pureT x && pureTs a) := rfl
theorem pureTs_nil : pureTs [] = true := rfl
theorem pureT_int (i : Int) : pureT (.int i) = true := rfl
theorem pureT_bl (i : Bool) : pureT (.bl i) = true := rfl
theorem pureT_tup (i : List T) : pureT (.tup i) = pureTs i := rfl
theorem depT_int (i : Int) : depT (.int i) = 0 := rfl
theorem depT_bl (i : Bool) : depT (.bl i) = 0 := rfl
theorem depT_tup (i : List T) : depT (.tup i) = depTs i + 1 := rfl
theorem depTs_cons (x : T) (a : List T) : depTs (x :: a) = max (depT x) (depTs a) := rfl
theorem depTs_nil : depTs [] = 0 := rfl
theorem Sub.set {M M' : MH} {p : Addr} {o u : MO} (h : Sub (updM M p o) M') : Sub (updM M p u) (updM M' p u) := fun a v e => by
 by_cases ha : a = p
 · subst ha; rw [updM_same] at e ⊢; exact e
 · rw [updM_ne ha] at e ⊢
   exact h a v (by rw [updM_ne ha]; exact e)
theorem Sub.newr {M M' : MH} {r : Addr} {o : MO} (h : Sub M M') (hr : M' r = none) : Sub M (updM M' r o) := h.trans (Sub.new hr)
theorem rt3_sub {M : MH} {Q : VK3} {t : T} {M0 M' : MH} (h : Q t M0) (s : Sub M0 M') : rt3 M Q t M' := ⟨M0, s, h⟩
theorem rangeT_map (n : Nat) : rangeT 0 n = ((List.range n).map fun i => ((i : Nat) : Int)).map T.int := by
 unfold rangeT
 rw [List.map_map]
 congr 1
 funext i
 simp
theorem rangeT0 (n : Int) : rangeT 0 n.toNat = (range0 n).map T.int := rangeT_map _
theorem rangeT_length (a : Int) (n : Nat) : (rangeT a n).length = n := by unfold rangeT; simp
theorem Sub.updF {M M' : MH} {p : Addr} {o : MO} (h : Sub M M') (hp : M p = none) : Sub M (updM M' p o) := fun a v e => by
 have ha : a ≠ p := by rintro rfl; rw [hp] at e; cases e
 rw [updM_ne ha]; exact h a v e
end L2
namespace L2
open PySem PySem.Spec PyProof.Rows
section
variable {prog : Program} {w : World} {A : Around} {E : Value → Shared → Prop} {s : Shared}
end
section
variable {X : Cx}
end
theorem rangeT0_get {n i : Nat} {x : T} (h : (rangeT 0 n)[i]? = some x) : i < n ∧ x = .int i := by
 have hl := (List.getElem?_eq_some_iff.mp h).1
 rw [rangeT_length] at hl
 unfold rangeT at h
 rw [List.getElem?_map, List.getElem?_range hl] at h
 have e := Option.some.inj h
 refine ⟨hl, ?_⟩
 rw [← e]
 simp
theorem line_len {n : Nat} (h : n < 10000) : n < sizeLine := Nat.lt_of_le_of_lt (by lia : n ≤ 10000) (by decide)
theorem line_len' {n : Nat} (h : n < 10000) : n ≤ sizeLine := Nat.le_of_lt (line_len h)
end L2
namespace HT
open PySem PySem.Spec PyProof.Rows
section
variable {prog : Program} {w : World} {A : Around} {E : Value → Shared → Prop} {s : Shared}
theorem getItem_tuple_all {t sl : Addr} {items : Array Value} {vl vu : Value} {lo hi : Option Int} {Q : Value → Shared → Prop} (ht : IsTup s.heap t items) (hs : s.heap.IsSliceOf sl vl vu .none) (pl : IsPart vl lo) (pu : IsPart vu hi)
   (hw : sIx items.size 0 lo = 0 ∧ sIx items.size items.size hi = items.size) (h : Q (.ref t) s)
   (hsz : items.size ≤ sizeLine) : wpAny (model prog w) A (getItem (.ref t) (.ref sl)) Q E s := by
 obtain ⟨os, hos, hcs, hds⟩ := id hs
 have hTs : s.TypeIs (.ref sl) "slice" := ⟨os, hos, hcs⟩
 unfold getItem
 try with_reducible refine wpAny_holding ?_
 first | refine wpAny_bind (wpAny_pure ?_) | skip
 refine wpAny_bind (wpAny_sequenceKey ht.typeIs (by decide) ?_)
 refine wpAny_bind (wpAny_callSpecial?_slot (name := Str.ofString "__getitem__") ht.typeIs PyProof.Rows.slot_tuple_getitem
   (wpAny_call_entry PyProof.Rows.slot_tuple_getitem ht.typeIs entry_tuple_getitem ?_ (args_tuple_getitem _ _)))
 show wpAny _ _ (Builtin.Tuple.tupleItemsOf (.ref t) >>= _) _ _ s
 refine wpAny_bind (tupleItemsOf_ ht ?_)
 refine wpAny_bind (wpAny_typeOf hTs ?_)
 rw [if_pos (by decide)]
 refine wpAny_bind (sliceApplied_gen hs pl pu ?_)
 have hyes : (((sIx items.size 0 lo : Nat) : Int) == 0 && (1 : Int) == 1 && (sIx items.size items.size hi - sIx items.size 0 lo) == items.size) = true := by
   rw [hw.1, hw.2]
   simp
 show wpAny _ _ (if (((sIx items.size 0 lo : Nat) : Int) == 0 && (1 : Int) == 1 && (sIx items.size items.size hi - sIx items.size 0 lo) == items.size) = true then _ else _) _ _ s
 rw [if_pos hyes]
 refine wpAny_bind (m := Builtin.Tuple.tupleIsExact (.ref t)) (wpAny_bind (wpAny_typeOf ht.typeIs (wpAny_pure ?_)))
 rw [if_pos (by decide)]
 refine wpAny_bind (wpAny_rule ?_)
 first
   | exact wpAny_pure ⟨_, rfl, wpAny_pure h⟩
   | exact wpAny_bind (wpAny_pure (wpAny_pure ⟨_, rfl, wpAny_pure h⟩))
end
end HT
namespace L2
open PySem PySem.Spec PyProof.Rows
section
variable {X : Cx}
noncomputable def cutT (xs : List T) (lo hi : Option Int) : List T := (xs.drop (HT.sIx xs.length 0 lo)).take (HT.sIx xs.length xs.length hi - HT.sIx xs.length 0 lo)
noncomputable def rSlT' (K : PySem.W.Frag) : V → Option Int → Option Int → Hp → VK → Prop := fun x lo hi H Q => ∃ a xs, x = .ref a ∧ SqT K H a xs ∧
 ∀ p H', SqT K H' p (cutV xs lo hi) → (H' = H ∨ H p = none ∧ H' = upd H p (.tup (cutV xs lo hi))) → Q (.ref p) H'
theorem sl_tup' : SlR X (rSlT' X.K) := by
 intro pins s σ H x v vl vu lo hi sl Q I rx hs pl pu h
 obtain ⟨a, xs, rfl, hx, q⟩ := h
 by_cases hw : HT.sIx xs.length 0 lo = 0 ∧ HT.sIx xs.length xs.length hi = xs.length
 · cases rx
   obtain ⟨its, r, ht, hz⟩ := I.tuple hx
   have hlen : its.toArray.size = xs.length := by rw [List.size_toArray]; exact r.length.symm
   refine ⟨"tuple", _, PyProof.Rows.slot_tuple_getitem.lookup, ht.typeIs, ?_⟩
   refine HT.getItem_tuple_all ht hs pl pu (by rw [hlen]; exact hw) ?_ (by rw [hlen]; exact hz)
   have e : cutV xs lo hi = xs := by
     unfold cutV
     rw [hw.1, hw.2]
     simp
   exact ⟨.ref a, H, I, rfl, q a H (by rw [e]; exact hx) (.inl rfl)⟩
 · exact sl_tup pins s σ H _ v vl vu lo hi sl Q I rx hs pl pu ⟨a, xs, rfl, hx, hw, fun p hp => q p _ (SqT.of upd_same) (.inr ⟨hp, rfl⟩)⟩
theorem Reps.cut {K : PySem.W.Frag} {H : Hp} {xs : List V} {ts : List T} (r : Reps K H xs ts) (lo hi : Option Int) : Reps K H (cutV xs lo hi) (cutT ts lo hi) := by
 unfold cutV cutT
 rw [r.length]
 exact (r.drop _).take _
noncomputable abbrev TO3 := En → MH → (Option Int → MH → Prop) → Prop
noncomputable def HPo (X : Cx) (e : Option Expr) (t : TO3) : Prop := ∀ ρ M Q, t ρ M Q → PO X e (fun σ H Q2 => RhoR X.K σ H ρ ∧ HR X.K H M ∧ ∀ o M' H', Kp X.K H H' → HR X.K H' M' → Q o M' → Q2 o H')
noncomputable def dPo (K : PySem.W.Frag) (ρ : En) (t : TO3) : TO := fun σ H Q2 => ∃ M Q, t ρ M Q ∧ RhoR K σ H ρ ∧ HR K H M ∧ ∀ o M' H', Kp K H H' → HR K H' M' → Q o M' → Q2 o H'
theorem HPo.d {e : Option Expr} {t : TO3} {ρ : En} (h : HPo X e t) : PO X e (dPo X.K ρ t) := fun pins s σ H Q I ⟨M, Q3, q, b⟩ => h ρ M Q3 q pins s σ H Q I b
theorem PO.imp {e : Option Expr} {w w' : TO} (h : PO X e w) (f : ∀ σ H Q, w' σ H Q → w σ H Q) : PO X e w' := fun pins s σ H Q I q => h pins s σ H Q I (f σ H Q q)
noncomputable def tNo3 : TO3 := fun ρ M Q => Q none M
noncomputable def tPt3 (t : TE3) : TO3 := fun ρ M Q => t ρ M fun x M1 => match x with
 | .int i => Q (some i) M1
 | _ => False
theorem o_none : HPo X none tNo3 := fun ρ M Q h => po_none.imp fun σ H Q2 ⟨hr, hh, en⟩ => en _ _ _ Kp.refl hh h
theorem o_some {e : Expr} {t : TE3} (he : HE X e t) : HPo X (some e) (tPt3 t) := fun ρ M Q h => (po_some (he.d (ρ := ρ))).imp fun σ H Q2 ⟨hr, hh, en⟩ =>
 ⟨M, _, h, hr, hh, fun x v M1 H1 k1 h1 r1 q1 => by
   dsimp only at q1
   split at q1
   · obtain rfl := inv_int r1
     exact ⟨_, rfl, en _ _ _ k1 h1 q1⟩
   · exact q1.elim⟩
noncomputable def rSlS : V → Option Int → Option Int → Hp → VK → Prop := fun x lo hi H Q => ∃ z, x = .str z ∧ z.length ≤ sizeLine ∧ Q (.str (Txt.slice z lo hi)) H
theorem sl_str : SlR X rSlS := by
 intro pins s σ H x v vl vu lo hi sl Q I rx hs pl pu h
 obtain ⟨z, rfl, hz, q⟩ := h
 obtain ⟨t, rfl⟩ := rx
 refine ⟨"str", _, F.slot_str_getitem.lookup, typeIs_str _ _ _, ?_⟩
 have fin : ∀ t' k, EP X pins σ Q (.str (Txt.slice z lo hi) t') { s with toks := k } := fun t' k => ⟨.str _, H, I.kept fun b o e => e, ⟨_, rfl⟩, q⟩
 have hl : (Txt.slice z lo hi).length ≤ sizeLine := Nat.le_trans (Txt.slice_le z _ _) hz
 cases pl with
 | none => cases pu with
   | none => exact wpAny_getItem_str_slice (l := none) (u := none) (st := none) hs rfl (post_val_or_str ⟨hl, fin⟩)
   | int j uj => exact wpAny_getItem_str_slice (l := none) (u := some (j, uj)) (st := none) hs rfl (post_val_or_str ⟨hl, fin⟩)
 | int i ui => cases pu with
   | none => exact wpAny_getItem_str_slice (l := some (i, ui)) (u := none) (st := none) hs rfl (post_val_or_str ⟨hl, fin⟩)
   | int j uj => exact wpAny_getItem_str_slice (l := some (i, ui)) (u := some (j, uj)) (st := none) hs rfl (post_val_or_str ⟨hl, fin⟩)
noncomputable def tSl3 (te : TE3) (tl th : TO3) : TE3 := fun ρ M Q => te ρ M fun x M1 => tl ρ M1 fun l M2 => th ρ M2 fun u M3 => match x with
 | .tup ts => Q (.tup (cutT ts l u)) M3
 | .adr p => (match M3 p with
   | some (.lst ts) => ∀ r, M3 r = none → Q (.adr r) (updM M3 r (.lst (cutT ts l u)))
   | _ => False)
 | .str z => z.length ≤ sizeLine ∧ Q (.str (Txt.slice z l u)) M3
 | _ => False
theorem h_slice {e : Expr} {lo hi : Option Expr} {te : TE3} {tl th : TO3} {pos p2 : Pos} (he : HE X e te) (hl : HPo X lo tl) (hu : HPo X hi th) : HE X (.Subscript e (.Slice lo hi none p2) pos) (tSl3 te tl th) := fun ρ M Q h =>
 (pe_slice ((sl_tup'.or sl_list).or sl_str) (he.d (ρ := ρ)) (hl.d (ρ := ρ)) (hu.d (ρ := ρ))).imp fun σ H Q2 ⟨hr, hh, en⟩ =>
   ⟨M, _, h, hr, hh, fun x v M1 H1 k1 h1 r1 q1 => ⟨M1, _, q1, hr.kp k1, h1, fun l M2 H2 k2 h2 q2 => ⟨M2, _, q2, hr.kp (k1.trans k2), h2, fun u M3 H3 k3 h3 q3 => by
     have r3 := Rep.kp (k2.trans k3) _ _ r1
     have k13 := (k1.trans k2).trans k3
     split at q3
     · rename_i ts
       obtain ⟨a, xs, rfl, g1, g2⟩ := inv_tup r3
       refine .inl (.inl ⟨a, xs, rfl, g1, fun p H' h' c => ?_⟩)
       rcases c with rfl | ⟨c1, rfl⟩
       · exact en _ _ _ _ k13 h3 (rep_tup h' (g2.cut l u)) q3
       · exact en _ _ _ _ (k13.trans (Kp.new c1)) (h3.keep c1) (rep_tup h' (Reps.kp (Kp.new c1) _ _ (g2.cut l u))) q3
     · obtain rfl := inv_adr r3
       split at q3
       · rename_i ts e0
         obtain ⟨xs, g1, g2⟩ := h3 _ _ e0
         refine .inl (.inr ⟨_, xs, rfl, SqL.of g1, fun p hp => ?_⟩)
         exact en _ _ _ _ (k13.trans (Kp.new hp)) (h3.newL hp (g2.cut l u)) rep_adr (q3 p (h3.free hp))
       · exact q3.elim
     · obtain rfl := inv_str r3
       exact .inr ⟨_, rfl, q3.1, en _ _ _ _ k13 h3 rep_str q3.2⟩
     · exact q3.elim⟩⟩⟩
theorem cutT_to (xs : List T) (k : Int) (h0 : 0 ≤ k) (h1 : k ≤ xs.length) : cutT xs none (some k) = xs.take k.toNat := by
 unfold cutT
 have e : k = ((k.toNat : Nat) : Int) := by lia
 rw [e, HT.sIx_nat, HT.sIx_none, List.drop_zero, Nat.sub_zero, Nat.min_eq_left (by lia), Int.toNat_natCast]
theorem cutT_from (xs : List T) (k : Int) (h0 : 0 ≤ k) (h1 : k ≤ xs.length) : cutT xs (some k) none = xs.drop k.toNat := by
 unfold cutT
 have e : k = ((k.toNat : Nat) : Int) := by lia
 rw [e, HT.sIx_nat, HT.sIx_none, Nat.min_eq_left (by lia), Int.toNat_natCast]
 exact List.take_of_length_le (by rw [List.length_drop]; exact Nat.le_refl _)
end
end L2
namespace HT
open PySem PySem.Spec PyProof.Rows
section
variable {prog : Program} {w : World} {A : Around} {E : Value → Shared → Prop} {s : Shared}
end
end HT
namespace L2
open PySem PySem.Spec PyProof.Rows
section
variable {X : Cx}
end
end L2
namespace L2
open PySem PySem.Spec PyProof.Rows
section
variable {X : Cx}
end
end L2
namespace L2
open PySem PySem.Spec PyProof.Rows
section
variable {X : Cx}
end
end L2
namespace L2
open PySem PySem.Spec PyProof.Rows
section
variable {X : Cx}
end
end L2
namespace L2
open PySem PySem.Spec PyProof.Rows
section
variable {X : Cx} {es : List Expr} {e : Expr} {t : TA3}
end
end L2
namespace L2
open PySem PySem.Spec PyProof.Rows
section
variable {X : Cx} {es : List Expr} {e : Expr} {t : TA3}
noncomputable def strsT : List T → Option (List Str)
 | [] => some []
 | .str i :: ts => (strsT ts).map (i :: ·)
 | _ :: _ => none
theorem strsT_map : ∀ (ns : List Str), strsT (ns.map T.str) = some ns
 | [] => rfl
 | n :: ns => by show (strsT (ns.map T.str)).map (n :: ·) = _; rw [strsT_map ns]; rfl
end
end L2
namespace L2
open PySem PySem.Spec PyProof.Rows LM
end L2
namespace L2
open PySem PySem.Spec PyProof.Rows
section
variable {prog : Program} {w : World} {A : Around} {E : Value → Shared → Prop} {s : Shared}
theorem iadd_rangeL {R : Result → Shared → Prop} {S r : Addr} {a b c : Int} {t u v : Tok} {n : Nat} (hh : A.handled = none) (hr : IsRange s.heap r a b c t u v) (hsmall : Builtin.Range.small a b c = true)
   (hn : Builtin.Range.rangeSize a b c = n) (hlen : n ≤ 2 ^ 24) (hS : s.heap.get? S = some { cls := .type "list", data := .seq #[] 0 })
   (hR : ∀ (h' : Heap) (tk : Tok) (acc' : Array Value) (c' : Nat), (∀ b o, b ≠ S → s.heap.get? b = some o → h'.get? b = some o) → h'.get? S = some { cls := .type "list", dict := none, data := .seq acc' c', slots := #[] } →
     ItemsOf (fun i v => ∃ t, v = .int (a + i * c) t) acc' n → R (.ok (.ret (.ref S))) { s with heap := h', toks := tk }) :
   codeAny (model prog w) A (.builtin "list.__iadd__" ⟨[.ref S, .ref r], []⟩) R s := by
 refine codeAny_builtin F.entry_list_iadd ?_
 rw [Around.under_plainId F.plain_list_iadd _]
 show wpAny _ A.in1 (Builtin.List.listExtendWith (.ref S) (.ref r) (.ref S)) _ _ _
 exact wpAny_extend_range hh hr hsmall hn hlen S (.ref S) 0 hS hR
theorem collect_rangeL {Q : List Value → Shared → Prop} {r : Addr} {a b c : Int} {t u v : Tok} {n : Nat} (hh : A.handled = none) (hr : IsRange s.heap r a b c t u v) (hsmall : Builtin.Range.small a b c = true)
   (hn : Builtin.Range.rangeSize a b c = n) (hlen : n ≤ 2 ^ 24)
   (hQ : ∀ (h' : Heap) (tk : Tok) (acc' : Array Value), (∀ b o, s.heap.get? b = some o → h'.get? b = some o) → ItemsOf (fun i v => ∃ t, v = .int (a + i * c) t) acc' n → Q acc'.toList { s with heap := h', toks := tk }) :
   wpAny (model prog w) A (collect (.ref r)) Q E s := by
 unfold collect
 refine wpAny_bind (wpAny_runValue (codeAny_builtin F.entry_proto_collect ?_))
 rw [Around.under_plainId F.plain_proto_collect _]
 show wpAny _ A.in1 (newList [] >>= fun l => again (.builtin "list.__iadd__" ⟨[l, .ref r], []⟩)) _ _ s
 refine wpAny_bind (wpAny_newObj_type ?_)
 have hS₁ : (s.heap.push { cls := .type "list", data := .seq ([] : List Value).toArray }).get? s.heap.objs.size = some { cls := .type "list", data := .seq #[] } := Heap.get?_push_size _ rfl
 refine wpAny_pure ⟨plainId_quiet F.plain_list_iadd _, iadd_rangeL (s := { s with heap := s.heap.push { cls := .type "list", data := .seq ([] : List Value).toArray } }) hh (Heap.get?_push_of_some _ hr) hsmall hn hlen hS₁ fun h' tk acc' c' hk hS hacc => ?_⟩
 show wpAny _ A (load s.heap.objs.size >>= _) _ _ _
 refine wpAny_bind (wpAny_load hS ?_)
 exact wpAny_pure (hQ h' tk acc' (fun b o e => hk b o (Nat.ne_of_lt (Heap.lt_size e)) (Heap.get?_push_of_some _ e)) hacc)
theorem code_tuple_new_range {Q₁ : Value → Shared → Prop} {r : Addr} {a b c : Int} {t u v : Tok} {n : Nat} (hh : A.handled = none) (hr : IsRange s.heap r a b c t u v) (hsmall : Builtin.Range.small a b c = true)
   (hn : Builtin.Range.rangeSize a b c = n) (hlen : n ≤ 2 ^ 24)
   (h : ∀ (h' : Heap) (tk : Tok) (acc : Array Value), (∀ b o, s.heap.get? b = some o → h'.get? b = some o) → ItemsOf (fun i v => ∃ t, v = .int (a + i * c) t) acc n → Q₁ (.ref h'.objs.size) { s with heap := h'.push { cls := .type "tuple", data := .seq acc }, toks := tk }) :
   codeAny (model prog w) A (.call (.builtin "tuple.__new__") ⟨[.type "tuple", .ref r], []⟩) (wants Q₁ E) s := by
 refine codeAny_of_tree ?_
 show wpAny _ A.in1 (do checkBuiltinCall "tuple.__new__" ⟨[.type "tuple", .ref r], []⟩; again (.builtin "tuple.__new__" ⟨[.type "tuple", .ref r], []⟩)) _ _ s
 refine wpAny_bind (wpAny_of_eq (F.newCall_tuple_1 _) (wpAny_pure ⟨plainId_quiet F.plain_tuple_new _, codeAny_builtin F.entry_tuple_new ?_⟩))
 rw [Around.under_plainId F.plain_tuple_new _]
 have hsub := sub_tuple_self
 have hinit := init_tuple_lookup
 have hmh := madeHere_tuple
 have hTI : s.TypeIs (.ref r) "range" := ⟨_, hr, rfl⟩
 wp_walk using wpAny_typeOf hTI, collect_rangeL (n := n) (A := A.in1) hh hr hsmall hn hlen
 intro h' tk acc hk hacc
 show wpAny _ _ (Builtin.Tuple.tupleExact acc.toList.toArray >>= fun v => ret v) _ _ _
 unfold Builtin.Tuple.tupleExact
 refine wpAny_bind (wpAny_newObj_type ?_ (by show acc.toList.toArray.size ≤ sizeLine; simp only [Array.toArray_toList]; rw [hacc.1, sizeLine_eq]; lia))
 refine wpAny_pure ?_
 have e : acc.toList.toArray = acc := by simp
 rw [e]
 exact h h' tk acc hk hacc
theorem call_tuple_rangeL {Q : Value → Shared → Prop} {r : Addr} {a b c : Int} {t u v : Tok} {n : Nat} (hh : A.handled = none) (hr : IsRange s.heap r a b c t u v) (hsmall : Builtin.Range.small a b c = true)
   (hn : Builtin.Range.rangeSize a b c = n) (hlen : n ≤ 2 ^ 24)
   (hQ : ∀ (h' : Heap) (tk : Tok) (acc : Array Value), (∀ b o, s.heap.get? b = some o → h'.get? b = some o) → ItemsOf (fun i v => ∃ t, v = .int (a + i * c) t) acc n → Q (.ref h'.objs.size) { s with heap := h'.push { cls := .type "tuple", data := .seq acc }, toks := tk }) :
   wpAny (model prog w) A (call (.type "tuple") [.ref r]) Q E s := by
 refine callType_codes (Q₁ := fun obj s₁ => s₁.TypeIs obj "tuple" ∧ Q obj s₁) F.called_tuple (F.typeCall_tuple_1 _) F.entry_object_init
   (code_tuple_new_range (A := A.in1) (Q₁ := fun obj s₁ => s₁.TypeIs obj "tuple" ∧ Q obj s₁) hh hr hsmall hn hlen fun h' tk acc hm hacc => ⟨⟨_, Heap.get?_push_size _ rfl, rfl⟩, hQ h' tk acc hm hacc⟩) fun obj s₁ h₁ => ?_
 exact ⟨h₁.1, F.args_object_init_2 obj _, object_init_meets F.called_tuple.init.lookup F.called_tuple.made (by decide) prog w A.in1 _ s₁ ⟨h₁.1, rfl, h₁.2⟩⟩
end
section
open AutoSeq1 (wpAny_loadPart')
open SeqAt (EqAt)
theorem wpAny_forIn_rng {M : Model} {A : Around} {E : Value → Shared → Prop} {s : Shared} {β : Type} (f : Nat → β → Sem (ForInStep β)) (I : List Nat → β → Shared → Prop) (Q : β → Shared → Prop)
   (turn : ∀ x rest b s, I (x :: rest) b s → wpAny M A (f x b) (fun r s' => match r with | .yield b' => I rest b' s' | .done b' => Q b' s') E s)
   (fin : ∀ b s, I [] b s → Q b s) (r : Std.Legacy.Range) (b : β) (h : I (List.range' r.start r.size r.step) b s) : wpAny M A (forIn r b f) Q E s := by
 rw [Std.Legacy.Range.forIn_eq_forIn_range']
 exact wpAny_forIn_list f I Q turn fin _ b h
theorem tuple_indexAt (l : Addr) (items : Array Value) (n : Nat) (dd : Option Addr) (sl : Array (Option Value)) (x : Value) (e : Value → Bool) (j : Nat) (hj : j < items.size) (hit : e items[j] = true) (hno : ∀ m (hm : m < items.size), m < j → e items[m] = false) :
   Meets (Builtin.«tuple.index» ⟨[.ref l, x], []⟩)
     (fun A R s => s.heap.get? l = some { cls := .type "tuple", dict := dd, data := .seq items n, slots := sl } ∧ (∀ y, y ∈ items → EqAt A.in1 s y x (e y)) ∧ R (.ok (.ret (.int j s.toks))) { s with toks := s.toks + 1 }) :=
 .of_wp fun prog w A R s h => by
   obtain ⟨hp, g, d, tk, os⟩ := s; obtain ⟨hl, he, h⟩ := h
   wp_walk using wpAny_loadPart' hl, wpAny_forIn_rng _ (fun rest b s' => b.1 = none ∧ s' = ⟨hp, g, d, tk, os⟩ ∧ ∃ i, i ≤ j ∧ rest = List.range' i (items.size - i)) _
   case turn =>
     rintro y rest b s' ⟨hb, rfl, i, hij, hr⟩
     have hsz : items.size - i = (items.size - (i + 1)) + 1 := by lia
     rw [hsz, List.range'_succ] at hr
     injection hr with hy hr
     subst hy
     have hys : y < items.size := by lia
     rw [Array.getElem?_eq_getElem hys]
     refine wpAny_bind (he items[y] (Array.getElem_mem hys) prog w _ _ ?_)
     by_cases hyj : y = j
     · subst hyj
       rw [hit]
       wp_walk
       exact ⟨_, rfl, h⟩
     · rw [hno y hys (by lia)]
       wp_walk
       exact ⟨rfl, rfl, y + 1, by lia, hr⟩
   case fin =>
     rintro ⟨b1, b2⟩ s' ⟨hb, rfl, i, hij, hr⟩
     exfalso
     have : (List.range' i (items.size - i)).length = 0 := by rw [← hr]; rfl
     rw [List.length_range'] at this
     lia
   case h =>
     refine ⟨rfl, rfl, 0, Nat.zero_le _, ?_⟩
     simp [Std.Legacy.Range.size]
end
section
variable {X : Cx} {a b e : Expr} {es : List Expr} {ta te : TE3} {t : TA3} {pos : Pos}
noncomputable def tTRng1 (t : TA3) : TE3 := fun ρ M Q => t ρ M fun xs M1 => match xs with
 | [.int j] => (-(2 ^ 62) ≤ j ∧ j < 2 ^ 24) ∧ Q (.tup (rangeT 0 j.toNat)) M1
 | _ => False
theorem h_tupRange1 {t : TA3} {p p' pos' : Pos} (hm : X.mg "tuple" = none) (hm' : X.mg "range" = none) (ha : HA X [a] t) (hc : X.calm = true := by rfl) (hg : Gl X "tuple" := by rfl) (hg' : Gl X "range" := by rfl) (hs : starEach [a] X.env = [(false, eval a X.env)] := by rfl)
   (he : starEach [.Call (.Name "range" p') [a] [] pos'] X.env = (false, eval (.Call (.Name "range" p') [a] [] pos') X.env) :: starEach [] X.env := by rfl) :
   HE X (.Call (.Name "tuple" p) [.Call (.Name "range" p') [a] [] pos'] [] pos) (tTRng1 t) := by
 intro ρ M Q h pins s σ H Q2 I bb
 obtain ⟨hr, hh, en⟩ := bb
 refine wpAny_Call_Name_kw (ld_blt I hg hm boot_tuple ?_ (by decide) (by decide))
 refine PyProof.Rows.callWith_type1 ?_ he rfl
 rw [he]
 refine Calls.spliced_cons ?_
 refine Call_ (ld_blt I hg' hm' boot_range (PyProof.Rows.callWith_type1 (thn (ha ρ M _ h pos' pins s σ H (fun vs H1 => ∃ j M1, vs = [V.int j] ∧ HR X.K H1 M1 ∧ Kp X.K H H1 ∧ (-(2 ^ 62) ≤ j ∧ j < 2 ^ 24) ∧ Q (.tup (rangeT 0 j.toNat)) M1) I
   ⟨hr, hh, fun ts vs M1 H1 k1 h1 r1 q1 => by
     dsimp only at q1
     split at q1
     · rename_i j
       obtain ⟨v, rfl, rv⟩ := reps1 r1
       obtain rfl := inv_int rv
       exact ⟨j, M1, rfl, h1, k1, q1.1, q1.2⟩
     · exact q1.elim⟩) fun us s1 ⟨vs, H1, I1, rv, j, M1, e1, h1, k1, hj, q1⟩ => ?_) hs rfl))
 subst e1
 obtain ⟨u, rfl, t', rfl⟩ := vals1 rv
 refine call_range_1 (Calls.spliced_nil ?_)
 have I2 : Inv X pins σ H1 { s1 with heap := s1.heap.push { cls := .type "range", data := .fields #[.int 0 s1.toks, .int j t', .int 1 (s1.toks + 1)] }, toks := s1.toks + 2 } := I1.kept fun b o e => Heap.get?_push_of_some _ e
 have hn : Builtin.Range.rangeSize 0 j 1 = ((j.toNat : Nat) : Int) := by rw [rangeSize_one]; split <;> lia
 refine call_tuple_rangeL (I1.ok.hd hc) (IsRange.new ..) (small_one (by lia) (by lia) (by lia) (by lia)) hn (by lia) fun h' tk acc' kp ito => ?_
 have hz : j.toNat ≤ sizeLine := by rw [sizeLine_eq]; lia
 have vr : Vals (rangeV 0 j.toNat) acc'.toList := by
   refine vals_of_get (by unfold rangeV; simp [ito.1]) fun i x ex => ?_
   have hi : i < j.toNat := by have := (List.getElem?_eq_some_iff.mp ex).1; simpa [rangeV] using this
   have hi' : i < acc'.size := by rw [ito.1]; exact hi
   have ea : acc'[i]? = some acc'[i] := Array.getElem?_eq_getElem hi'
   obtain ⟨tt, et⟩ := ito.2 i _ ea
   refine ⟨acc'[i], by rw [Array.getElem?_toList]; exact ea, ?_⟩
   unfold rangeV at ex
   rw [List.getElem?_map, List.getElem?_range hi] at ex
   have := Option.some.inj ex
   subst this
   exact ⟨tt, by rw [et, Int.mul_one]⟩
 have I2' : Inv X pins σ H1 { s1 with heap := h', toks := tk } := I2.kept (h' := h') (t' := tk) kp
 have eacc : acc'.toList.toArray = acc' := by simp
 have I3 : Inv X pins σ (upd H1 h'.objs.size (.tup (rangeV 0 j.toNat))) { s1 with heap := h'.push { cls := .type "tuple", data := .seq acc' }, toks := tk } :=
   I2'.laid (t' := tk) (fun b o e => Heap.get?_push_of_some _ e) (Nat.le_refl _) (show ObjOk X.prog X.w _ _ _ (.tup (rangeV 0 j.toNat)) from
     ⟨by unfold rangeV; simpa using hz, acc'.toList, vr, by rw [eacc]; exact IsTup0.new _ _⟩)
 have hf := I2'.hok.fresh (Nat.le_refl _)
 have nw := Kp.new (K := X.K) (H := H1) (o := .tup (rangeV 0 j.toNat)) hf
 exact ⟨.ref h'.objs.size, _, I3, rfl, en _ _ _ _ (k1.trans nw) (h1.keep hf) (rep_tup (SqT.of upd_same) (rangeV_reps 0 j.toNat)) q1⟩
noncomputable def isSeq (M : MH) (x : T) : Prop := match x with
 | .adr p => (match M p with | some (.lst _) => True | _ => False)
 | .tup _ => True
 | _ => False
noncomputable def rIdxS : RM3 := fun x xs M Q => match x, xs with
 | .adr p, [.int k] => (match M p with
   | some (.lst ts) => (match intsT ts with | some ns => k ∈ ns ∧ Q (.int (ns.idxOf k)) M | none => False)
   | _ => False)
 | .tup ts, [.int k] => (match intsT ts with | some ns => k ∈ ns ∧ Q (.int (ns.idxOf k)) M | none => False)
 | _, _ => False
theorem mt3_tindex (pins : List (Addr × Obj)) (s : Shared) (σ : St) (H : Hp) (v : V) (k : Int) (u : Value) (us : List Value) (ns : List Int) (M : MH) (Q : VK3) (Q2 : VK) (I : Inv X pins σ H s) (rv : RelV v u) (rvs : Vals [.int k] us) (r1 : Rep X.K H v (.tup (ns.map T.int))) (hh : HR X.K H M)
   (en : EndE X.K H Q Q2) (hk : k ∈ ns) (q : Q (.int (ns.idxOf k)) M) : wpAny (model X.prog X.w) X.A (call (.builtin "tuple.index") (u :: us)) (EP X pins σ Q2) X.xe s := by
 obtain ⟨p, ys, rfl, g1, g2⟩ := inv_tup r1
 obtain rfl := g2.ints
 cases rv
 obtain ⟨w', rfl, tk, rfl⟩ := vals1 rvs
 obtain ⟨its, r', pl, hz⟩ := I.tuple0 g1
 have hl := r'.length
 rw [List.length_map] at hl hz
 obtain ⟨o, eo, ec, edd, n, ed⟩ := id pl
 obtain ⟨cls, dd, data, sl⟩ := o
 simp only at ec edd ed
 subst ec edd ed
 have hk' : ns.idxOf k < ns.length := List.idxOf_lt_length_iff.mpr hk
 have item : ∀ (j : Nat) (hj : j < its.toArray.size), ∃ tk', its.toArray[j] = Value.int (ns[j]'(by rw [List.size_toArray, ← hl] at hj; exact hj)) tk' := fun j hj => by
   have hj' : j < ns.length := by rw [List.size_toArray, ← hl] at hj; exact hj
   obtain ⟨w2, e2, tk', rfl⟩ := r'.get (i := j) (x := V.int ns[j]) (by rw [List.getElem?_map, List.getElem?_eq_getElem hj'] <;> rfl)
   have : its[j]? = some its.toArray[j] := by rw [List.getElem?_eq_getElem (by rw [List.size_toArray] at hj; exact hj)] <;> simp
   rw [e2] at this
   exact ⟨tk', (Option.some.inj this).symm⟩
 let ee : Value → Bool := fun v => match v with | .int i _ => i == k | _ => false
 refine call_meets PySem.F.slot_tuple_index ⟨_, eo, rfl⟩ PySem.F.entry_tuple_index (PySem.F.args_tuple_index_2 _ _)
   (tuple_indexAt p its.toArray n none sl (.int k tk) ee (ns.idxOf k) (by rw [List.size_toArray, ← hl]; exact hk') ?_ ?_) ⟨eo, fun y hy => ?_, ?_⟩
 · obtain ⟨tk', e⟩ := item (ns.idxOf k) (by rw [List.size_toArray, ← hl]; exact hk')
   rw [e]
   show (ns[ns.idxOf k] == k) = true
   simp
 · intro m hm hlt
   obtain ⟨tk', e⟩ := item m hm
   rw [e]
   show (ns[m]'_ == k) = false
   have := List.not_of_lt_findIdx (p := (· == k)) (xs := ns) (i := m) (by simpa [List.idxOf] using hlt)
   simpa using this
 · obtain ⟨j, hj, rfl⟩ := Array.getElem_of_mem hy
   obtain ⟨tk', e⟩ := item j hj
   rw [e]
   exact SeqAt.EqAt.int_int _ _ _ _
 · exact ⟨.int (ns.idxOf k), H, I.tok _, ⟨_, rfl⟩, en _ _ M H Kp.refl hh rep_int q⟩
noncomputable def tLMS (to : TE3) (t : TA3) : TE3 := fun ρ M Q => to ρ M fun x M1 => isSeq M1 x ∧ t ρ M1 fun xs M2 => rIdxS x xs M2 Q
theorem h_m_index {o : Expr} {to : TE3} {apos cpos : Pos} (ho : HE X o to) (ha : HA X (e :: es) t)
   (hbase : attributeBase o "index" X.env (eval o X.env) = eval o X.env := by rfl)
   (hfew : ((backTo cpos (starEach (e :: es) X.env)).all (fun x => !x.1) && (backToKw cpos (keywordEach [] X.env)).all (fun x => x.1.isSome)
     && decide ((e :: es).length + ([] : List Keyword).length + (if ([] : List Keyword).isEmpty then 0 else 1) < 30)) = true := by rfl)
   (hline : (apos.endLine == cpos.line) = true := by rfl) (hs : starEach (e :: es) X.env = (false, eval e X.env) :: starEach es X.env := by rfl) (hplain : (backTo cpos (starEach es X.env)).any (·.1) = false := by rfl) :
   HE X (.Call (.Attribute o "index" apos) (e :: es) [] cpos) (tLMS to t) := by
 intro ρ M Q h pins s σ H Q2 I bb
 obtain ⟨hr, hh, en⟩ := bb
 refine wpAny_Call_method_late hbase hfew hline rfl (thn (ho ρ M _ h pins s σ H (fun v H1 => ∃ x M1, Rep X.K H1 v x ∧ HR X.K H1 M1 ∧ Kp X.K H H1 ∧ isSeq M1 x ∧ t ρ M1 fun xs M2 => rIdxS x xs M2 Q) I
   ⟨hr, hh, fun x v M1 H1 k1 h1 r1 q1 => ⟨x, M1, r1, h1, k1, q1.1, q1.2⟩⟩) fun v s1 ⟨vv, H1, I1, rvv, x, M1, r1, h1, k1, sq, q1⟩ => ?_)
 have hA := ha ρ M1 _ q1 cpos pins s1 σ H1
 cases x with
 | adr p =>
   have ty : tyV X.K "list" vv H1 := isLst_ty h1 r1 sq
   obtain ⟨t1, t2⟩ := tyV_is I1 rvv ty
   refine ⟨"list", "list.index", PySem.F.plainAttrs_list, PySem.F.slot_list_index, PySem.F.type_list_index, t1, t2, ?_⟩
   have hB := hA (fun vs H2 => ∃ xs M2, Reps X.K H2 vs xs ∧ HR X.K H2 M2 ∧ Kp X.K H1 H2 ∧ rIdxS (.adr p) xs M2 Q) I1 ⟨hr.kp k1, h1, fun ts vs M2 H2 k2 h2 r2 q2 => ⟨ts, M2, r2, h2, k2, q2⟩⟩
   rw [hs] at hB ⊢
   refine Calls.callWith_builtin (by show (false || (backTo cpos (starEach es X.env)).any (·.1)) = false; rw [hplain] <;> rfl) (Calls.evalArgs_plain ?_)
   refine thn hB fun us s2 ⟨vs, H2, I2, rvs, xs, M2, r2, h2, k2, q2⟩ => ?_
   have q3 : rIndex3 (.adr p) xs M2 Q := by
     unfold rIdxS at q2
     split at q2
     · rename_i h; cases h; exact q2
     · rename_i h; cases h
     · exact q2.elim
   exact mt3_index pins s2 σ H2 vv vs v us Q2 I2 rvv rvs ⟨.adr p, xs, M2, Q, Rep.kp k2 _ _ r1, r2, h2, q3, en.kp (k1.trans k2)⟩
 | tup ts =>
   obtain ⟨a1, ys, rfl, g1, g2⟩ := inv_tup r1
   have eu : v = .ref a1 := by cases rvv; rfl
   obtain ⟨its, _, ⟨oo, eo, ec, ed, _⟩, _⟩ := I1.tuple0 g1
   refine ⟨"tuple", "tuple.index", PySem.F.plainAttrs_tuple, PySem.F.slot_tuple_index, PySem.F.type_tuple_index, ?_, ?_, ?_⟩
   · rw [eu]; exact ⟨oo, eo, ec⟩
   · intro a2 e2
     rw [eu] at e2
     cases e2
     exact ⟨oo, eo, ed⟩
   have hB := hA (fun vs H2 => ∃ xs M2, Reps X.K H2 vs xs ∧ HR X.K H2 M2 ∧ Kp X.K H1 H2 ∧ rIdxS (.tup ts) xs M2 Q) I1 ⟨hr.kp k1, h1, fun ts vs M2 H2 k2 h2 r2 q2 => ⟨ts, M2, r2, h2, k2, q2⟩⟩
   rw [hs] at hB ⊢
   refine Calls.callWith_builtin (by show (false || (backTo cpos (starEach es X.env)).any (·.1)) = false; rw [hplain] <;> rfl) (Calls.evalArgs_plain ?_)
   refine thn hB fun us s2 ⟨vs, H2, I2, rvs, xs, M2, r2, h2, k2, q2⟩ => ?_
   unfold rIdxS at q2
   split at q2
   · rename_i h; cases h
   · rename_i ts' k h
     cases h
     obtain ⟨w, rfl, rw'⟩ := reps1 r2
     obtain rfl := inv_int rw'
     split at q2
     · rename_i ns en'
       have et := intsT_some en'
       subst et
       exact mt3_tindex pins s2 σ H2 _ k v us ns M2 Q Q2 I2 rvv rvs (Rep.kp k2 _ _ r1) h2 (en.kp (k1.trans k2)) q2.1 q2.2
     · exact q2.elim
   · exact q2.elim
 | _ => exact sq.elim
end
end L2
namespace L2
open PySem PySem.Spec PyProof.Rows
section
open AutoSeq1
end
section
variable {X : Cx} {a b e f : Expr} {es : List Expr} {ta te : TE3} {t : TA3} {pos : Pos}
noncomputable def keyT : Key → T
 | .inl i => .int i
 | .inr x => .str x
theorem rep_key {K : PySem.W.Frag} {H : Hp} {v : V} {k : Key} (r : Rep K H v (keyT k)) : v = kV k := by
 cases k with
 | inl i => exact inv_int r
 | inr x => exact inv_str r
theorem rep_keys {K : PySem.W.Frag} {H : Hp} : ∀ {ks : List Key} {vs : List V}, Reps K H vs (ks.map keyT) → vs = ks.map kV
 | [], _, r => by rw [List.map_nil] at r; unfold Reps at r; exact r
 | k :: ks, _, r => by
   rw [List.map_cons] at r
   unfold Reps at r
   obtain ⟨v, w, rfl, r1, r2⟩ := r
   rw [rep_key r1, rep_keys r2]
   rfl
noncomputable def valT {κ : Type} [DecidableEq κ] (kvs : List (κ × T)) (k : κ) : Option T := (kvs.find? fun kv => decide (kv.1 = k)).map (·.2)
noncomputable def putT {κ : Type} [DecidableEq κ] (kvs : List (κ × T)) (k : κ) (v : T) : List (κ × T) :=
 if (kvs.any fun kv => decide (kv.1 = k)) = true then kvs.map (fun kv => if kv.1 = k then (kv.1, v) else kv) else kvs ++ [(k, v)]
theorem KRep.val {κ : Type} [DecidableEq κ] {K : PySem.W.Frag} {H : Hp} (k : κ) : ∀ {xs : List (κ × V)} {kvs : List (κ × T)}, KRep K H xs kvs → (match valT kvs k with | some t => ∃ v, valV xs k = some v ∧ Rep K H v t | none => valV xs k = none)
 | [], [], _ => rfl
 | p :: r, q :: u, h => by
   have ih := KRep.val k h.2.2
   unfold valT valV at ih ⊢
   rw [List.find?_cons, List.find?_cons, h.1]
   by_cases c : q.1 = k
   · simp only [c, decide_true, Option.map_some]
     exact ⟨p.2, rfl, h.2.1⟩
   · simp only [c, decide_false]
     exact ih
 | [], q :: u, h => h.elim
 | p :: r, [], h => h.elim
theorem KRep.any {κ : Type} [DecidableEq κ] {K : PySem.W.Frag} {H : Hp} (k : κ) : ∀ {xs : List (κ × V)} {kvs : List (κ × T)}, KRep K H xs kvs → (xs.any fun kv => decide (kv.1 = k)) = kvs.any fun kv => decide (kv.1 = k)
 | [], [], _ => rfl
 | p :: r, q :: u, h => by rw [List.any_cons, List.any_cons, h.1, KRep.any k h.2.2]
 | [], q :: u, h => h.elim
 | p :: r, [], h => h.elim
theorem KRep.repl {κ : Type} [DecidableEq κ] {K : PySem.W.Frag} {H : Hp} (k : κ) {v : V} {z : T} (rz : Rep K H v z) : ∀ {xs : List (κ × V)} {kvs : List (κ × T)}, KRep K H xs kvs → KRep K H (xs.map fun kv => if kv.1 = k then (kv.1, v) else kv) (kvs.map fun kv => if kv.1 = k then (kv.1, z) else kv)
 | [], [], _ => trivial
 | p :: r, q :: u, h => by
   rw [List.map_cons, List.map_cons]
   refine ⟨?_, ?_, KRep.repl k rz h.2.2⟩
   · rw [h.1]
     by_cases c : q.1 = k
     · rw [if_pos c, if_pos c]
     · rw [if_neg c, if_neg c]; exact h.1
   · rw [h.1]
     by_cases c : q.1 = k
     · rw [if_pos c, if_pos c]; exact rz
     · rw [if_neg c, if_neg c]; exact h.2.1
 | [], q :: u, h => h.elim
 | p :: r, [], h => h.elim
theorem KRep.snoc {κ : Type} {K : PySem.W.Frag} {H : Hp} (k : κ) {v : V} {z : T} (rz : Rep K H v z) : ∀ {xs : List (κ × V)} {kvs : List (κ × T)}, KRep K H xs kvs → KRep K H (xs ++ [(k, v)]) (kvs ++ [(k, z)])
 | [], [], _ => ⟨rfl, rz, trivial⟩
 | p :: r, q :: u, h => ⟨h.1, h.2.1, KRep.snoc k rz h.2.2⟩
 | [], q :: u, h => h.elim
 | p :: r, [], h => h.elim
theorem KRep.put {κ : Type} [DecidableEq κ] {K : PySem.W.Frag} {H : Hp} (k : κ) {v : V} {z : T} (rz : Rep K H v z) {xs : List (κ × V)} {kvs : List (κ × T)} (h : KRep K H xs kvs) : KRep K H (putK xs k v) (putT kvs k z) := by
 unfold putK putT
 rw [h.any k]
 split
 · exact h.repl k rz
 · exact h.snoc k rz
noncomputable def tDicE (tup : Bool) : TE3 := fun _ M Q => ∀ p, M p = none → Q (.adr p) (updM M p (if tup then .dt [] else .dk []))
theorem h_dicK {pos : Pos} : HE X (.Dict [] [] pos) (tDicE false) := fun ρ M Q h =>
 (pe_dnewK).imp fun σ H Q2 ⟨hr, hh, en⟩ => fun p hp => en _ _ _ _ (Kp.new hp) (hh.newK hp (kvs := []) (xs := []) trivial) rep_adr (h p (hh.free hp))
theorem h_dicT {pos : Pos} : HE X (.Dict [] [] pos) (tDicE true) := fun ρ M Q h =>
 (pe_dnewT).imp fun σ H Q2 ⟨hr, hh, en⟩ => fun p hp => en _ _ _ _ (Kp.new hp) (hh.newT hp (kvs := []) (xs := []) trivial) rep_adr (h p (hh.free hp))
noncomputable def tDGK (td tk : TE3) : TE3 := fun ρ M Q => td ρ M fun x M1 => tk ρ M1 fun k M2 => match x with
 | .adr p => (match M2 p with
   | some (.dk kvs) => ∃ kk t, k = keyT kk ∧ valT kvs kk = some t ∧ Q t M2
   | _ => False)
 | _ => False
theorem h_dgk {o i : Expr} {td tk : TE3} {pos : Pos} (hu : X.A.units + 64 < cLine) (ho : HE X o td) (hi : HE X i tk) (hs : NoSl i := by intro _ _; rfl) : HE X (.Subscript o i pos) (tDGK td tk) := fun ρ M Q h =>
 (pe_dget (by lia) (ho.d (ρ := ρ)) (hi.d (ρ := ρ)) hs).imp fun σ H Q2 ⟨hr, hh, en⟩ => ⟨M, _, h, hr, hh, fun x v M1 H1 k1 h1 r1 q1 => ⟨M1, _, q1, hr.kp k1, h1, fun y v2 M2 H2 k2 h2 r2 q2 => by
   cases x with
   | adr p =>
     cases r1
     dsimp only at q2
     split at q2
     · rename_i kvs e
       obtain ⟨kk, t, rfl, ev, q2⟩ := q2
       obtain rfl := rep_key r2
       obtain ⟨xs, g1, g2⟩ := h2 _ _ e
       have hv := g2.val kk
       rw [ev] at hv
       obtain ⟨u, e1, e2⟩ := hv
       exact ⟨_, u, rfl, by rw [← e1]; exact DGet.k g1, en _ _ M2 H2 (k1.trans k2) h2 e2 q2⟩
     · exact q2.elim
   | _ => exact q2.elim⟩⟩
noncomputable def sDPK (td tk tv : TE3) : TS3 := fun D ρ M => tv ρ M fun z M1 => td ρ M1 fun x M2 => tk ρ M2 fun k M3 => match x with
 | .adr p => (match M3 p with
   | some (.dk kvs) => ∃ kk, k = keyT kk ∧ kvs.length < sizeLine ∧ D.nx ρ (updM M3 p (.dk (putT kvs kk z)))
   | _ => False)
 | _ => False
theorem s_dpk {o i value : Expr} {td tk tv : TE3} {pos pos' : Pos} (hu : X.A.units + 64 < cLine) (hv : HE X value tv) (ho : HE X o td) (hi : HE X i tk) (hs : swapsWith value (some (.Subscript o i pos')) pos.line X.env = pure false := by rfl) :
   HS X (.Assign [.Subscript o i pos'] value pos) (sDPK td tk tv) := fun D ρ M h =>
 (ps_dput (by lia) (ho.d (ρ := ρ)) (hi.d (ρ := ρ)) (hv.d (ρ := ρ)) hs).imp fun D2 σ H ⟨hr, hh, en⟩ => ⟨M, _, h, hr, hh, fun z v M1 H1 k1 h1 r1 q1 => ⟨M1, _, q1, hr.kp k1, h1, fun x v2 M2 H2 k2 h2 r2 q2 => ⟨M2, _, q2, hr.kp (k1.trans k2), h2, fun y v3 M3 H3 k3 h3 r3 q3 => by
   cases x with
   | adr p =>
     cases r2
     dsimp only at q3
     split at q3
     · rename_i kvs e
       obtain ⟨kk, rfl, hl, q3⟩ := q3
       obtain rfl := rep_key r3
       obtain ⟨xs, g1, g2⟩ := h3 _ _ e
       have kk' := Kp.dict (K := X.K) (u := .dK (putK xs kk v)) g1 (.inl ⟨_, rfl⟩)
       have kall := (k1.trans k2).trans (k3.trans kk')
       refine ⟨_, _, rfl, DPut.k g1 (by rw [g2.length]; exact hl), en.nx _ _ _ _ kall (hr.kp kall) (h3.setK g1 (.inl ⟨_, rfl⟩) (g2.put kk (Rep.kp (k2.trans k3) _ _ r1))) q3⟩
     · exact q3.elim
   | _ => exact q3.elim⟩⟩⟩
noncomputable def sDPT (td : TE3) (t : TA3) (tv : TE3) : TS3 := fun D ρ M => tv ρ M fun z M1 => td ρ M1 fun x M2 => t ρ M2 fun ks M3 => ks.length ≤ sizeLine ∧ (match x with
 | .adr p => (match M3 p with
   | some (.dt kvs) => ∃ kk : List Key, ks = kk.map keyT ∧ kvs.length < sizeLine ∧ D.nx ρ (updM M3 p (.dt (putT kvs kk z)))
   | _ => False)
 | _ => False)
theorem s_dpt {o value : Expr} {es : List Expr} {x1} {p1 : Pos} {td tv : TE3} {t : TA3} {pos pos' : Pos} (hu : X.A.units + 64 < cLine) (hv : HE X value tv) (ho : HE X o td) (ha : HA X es t) (hs : swapsWith value (some (.Subscript o (.Tuple es x1 p1) pos')) pos.line X.env = pure false := by rfl) :
   HS X (.Assign [.Subscript o (.Tuple es x1 p1) pos'] value pos) (sDPT td t tv) := fun D ρ M h =>
 (ps_dput (by lia) (ho.d (ρ := ρ)) (pe_tup (ha.d (ρ := ρ))) (hv.d (ρ := ρ)) hs).imp fun D2 σ H ⟨hr, hh, en⟩ => ⟨M, _, h, hr, hh, fun z v M1 H1 k1 h1 r1 q1 => ⟨M1, _, q1, hr.kp k1, h1, fun x v2 M2 H2 k2 h2 r2 q2 => ⟨M2, _, q2, hr.kp (k1.trans k2), h2, fun ks vs M3 H3 k3 h3 r3 q3 => by
   obtain ⟨hz, q3⟩ := q3
   refine ⟨by rw [r3.length]; exact hz, fun b hb => ?_⟩
   cases x with
   | adr p =>
     cases r2
     dsimp only at q3
     split at q3
     · rename_i kvs e
       obtain ⟨kk, rfl, hl, q3⟩ := q3
       obtain rfl := rep_keys r3
       obtain ⟨xs, g1, g2⟩ := h3 _ _ e
       have np : p ≠ b := fun z => by rw [← z, g1] at hb; cases hb
       have kb := Kp.new (K := X.K) (o := .tup (kk.map kV)) hb
       have g1' : upd H3 b (.tup (kk.map kV)) p = some (.dT xs) := by rw [upd_ne np]; exact g1
       have kk' := Kp.dict (K := X.K) (u := .dT (putK xs kk v)) g1' (.inr ⟨_, rfl⟩)
       have kall := (k1.trans k2).trans (k3.trans (kb.trans kk'))
       refine ⟨_, _, rfl, DPut.t g1' upd_same (by rw [g2.length]; exact hl), en.nx _ _ _ _ kall (hr.kp kall) ((h3.keep hb).setT g1' (.inr ⟨_, rfl⟩) ((g2.kp kb).put kk (Rep.kp ((k2.trans k3).trans kb) _ _ r1))) q3⟩
     · exact q3.elim
   | _ => exact q3.elim⟩⟩⟩
end
end L2
namespace L2
open PySem PySem.Spec PyProof.Rows LM
noncomputable def swapN (st : List Int) (k : Nat) : List Int := (st.set k (st.getD (k + 1) 0)).set (k + 1) (st.getD k 0)
theorem swapN_swapL (st : List Int) (l : Int) (h : 1 ≤ l.natAbs) : swapN st (l.natAbs - 1) = swapL st l := by
 unfold swapN swapL
 rw [show l.natAbs - 1 + 1 = l.natAbs by lia]
theorem swapN_length (st : List Int) (k : Nat) : (swapN st k).length = st.length := by unfold swapN; simp
theorem swapN_cut (st : List Int) (k : Nat) (h : k + 1 < st.length) : st.take k ++ ([st.getD (k + 1) 0, st.getD k 0] ++ st.drop (k + 2)) = swapN st k := by
 unfold swapN
 induction st generalizing k with
 | nil => simp at h
 | cons x t ih =>
   cases k with
   | zero =>
     cases t with
     | nil => simp at h
     | cons y t => rfl
   | succ k =>
     have := ih k (by simp at h; lia)
     simp only [List.take_succ_cons, List.cons_append, List.drop_succ_cons, List.set_cons_succ, List.getD_cons_succ] at this ⊢
     rw [← this]
noncomputable def isWd (n : Int) (w : List Int) (k : Int) : Bool := decide (1 ≤ n) && decide (n ≤ 6) && decide ((w.length : Int) ≤ k) && w.all (isLet n)
theorem isWd_16 (n : Int) (w : List Int) : isWd n w 16 = isPl n w := by
 unfold isWd isPl
 rw [show decide ((w.length : Int) ≤ 16) = decide (w.length ≤ 16) from decide_eq_decide.mpr (by lia)]
theorem valT_cons {κ : Type} [DecidableEq κ] (p : κ × T) (r : List (κ × T)) (k : κ) : valT (p :: r) k = if p.1 = k then some p.2 else valT r k := by
 unfold valT
 rw [List.find?_cons]
 by_cases c : p.1 = k
 · simp [c]
 · simp [c]
theorem none_of {M M' : MH} {p : Addr} (h : Sub M M') (hp : M' p = none) : M p = none := by
 cases q : M p with
 | none => rfl
 | some o => have := h p o q; rw [hp] at this; cases this
theorem rangeT_get {a : Int} {n i : Nat} {x : T} (h : (rangeT a n)[i]? = some x) : i < n ∧ x = .int (a + (i : Nat)) := by
 unfold rangeT at h
 rw [List.getElem?_map] at h
 cases q : (List.range n)[i]? with
 | none => rw [q] at h; cases h
 | some k =>
   rw [q] at h
   have hi := (List.getElem?_eq_some_iff.mp q).1
   rw [List.length_range] at hi
   rw [List.getElem?_range hi] at q
   cases q
   exact ⟨hi, (Option.some.inj h).symm⟩
theorem cutT_to' (xs : List T) (k : Int) (h0 : 0 ≤ k) : cutT xs none (some k) = xs.take k.toNat := by
 unfold cutT
 have e : k = ((k.toNat : Nat) : Int) := by lia
 rw [e, HT.sIx_nat, HT.sIx_none, List.drop_zero, Nat.sub_zero, Int.toNat_natCast]
 by_cases h : k.toNat ≤ xs.length
 · rw [Nat.min_eq_left h]
 · rw [Nat.min_eq_right (by lia), List.take_of_length_le (Nat.le_refl _), List.take_of_length_le (by lia)]
end L2
namespace L2
open PySem PySem.Spec PyProof.Rows LM
theorem atI_last2 {α : Type} (xs : List α) (a b : α) : atI (xs ++ [a, b]) (-2) = some a := by
 have e : (xs ++ [a, b]).length = xs.length + 2 := by simp
 unfold atI
 rw [e]
 have : ixN (xs.length + 2) (-2) = some xs.length := by
   unfold ixN
   simp
   lia
 rw [this]
 simp
end L2
namespace L2
open PySem PySem.Spec PyProof.Rows LM
end L2
namespace L2
open PySem PySem.Spec PyProof.Rows LM
theorem pureTs_tups : ∀ (L : List (List Int)), pureTs (L.map fun u => T.tup (u.map .int)) = true
 | [] => rfl
 | u :: L => by rw [List.map_cons, pureTs_cons, pureT_tup, pureTs_ints, pureTs_tups L]; rfl
theorem depTs_tups : ∀ (L : List (List Int)), depTs (L.map fun u => T.tup (u.map .int)) ≤ 1
 | [] => by rw [List.map_nil, depTs_nil]; lia
 | u :: L => by
   have := depTs_tups L
   rw [List.map_cons, depTs_cons, depT_tup, depTs_ints]
   lia
end L2
namespace L2
open PySem PySem.Spec PyProof.Rows LM
end L2
namespace L2
open PySem PySem.Spec PyProof.Rows LM
end L2
namespace L2
open PySem PySem.Spec PyProof.Rows LM
theorem cutT_from' (xs : List T) (k : Int) (h0 : 0 ≤ k) : cutT xs (some k) none = xs.drop k.toNat := by
 unfold cutT
 have e : k = ((k.toNat : Nat) : Int) := by lia
 rw [e, HT.sIx_nat, HT.sIx_none, Int.toNat_natCast]
 by_cases h : k.toNat ≤ xs.length
 · rw [Nat.min_eq_left h, List.take_of_length_le (by rw [List.length_drop]; lia)]
 · rw [Nat.min_eq_right (by lia), Nat.sub_self, List.take_zero, List.drop_of_length_le (by lia)]
end L2
namespace L2
open PySem PySem.Spec PyProof.Rows LM
end L2
namespace LM
end LM
namespace LM
end LM
namespace LM
end LM
namespace LM
end LM
namespace L2
open PySem PySem.Spec PyProof.Rows LM
noncomputable def gI (w : List Int) (k : Int) : Int := w.getD k.toNat 0
noncomputable def canFar (w : List Int) (a : Int) : Bool := decide (0 ≤ a ∧ a < (w.length : Int) - 1) && decide ((1 : Int) < (((((gI w a).natAbs : Int) - ((gI w (a + 1)).natAbs : Int)).natAbs : Nat) : Int))
noncomputable def canOut (w : List Int) (a : Int) : Bool := decide (0 ≤ a ∧ a < (w.length : Int) - 1) && decide (gI w a = -(gI w (a + 1)))
noncomputable def canThree (w : List Int) (a : Int) : Bool := decide (0 ≤ a ∧ a < (w.length : Int) - 2) && (decide (((gI w a).natAbs : Int) = ((gI w (a + 2)).natAbs : Int)) && decide ((((((gI w a).natAbs : Int) - ((gI w (a + 1)).natAbs : Int)).natAbs : Nat) : Int) = 1) && (!decide (gI w a = gI w (a + 2)) || decide (0 < gI w a * gI w (a + 1))))
noncomputable def sgnL (a l : Int) : Int := if l < 0 then -((a.natAbs : Nat) : Int) else ((a.natAbs : Nat) : Int)
noncomputable def threeL (w : List Int) (a : Int) : List Int := w.take a.toNat ++ [sgnL (gI w (a + 1)) (gI w (a + 2)), sgnL (gI w a) (gI w (a + 1)), sgnL (gI w (a + 1)) (gI w a)] ++ w.drop (a + 3).toNat
noncomputable def inL (w : List Int) (a l : Int) : List Int := w.take a.toNat ++ [l, -l] ++ w.drop a.toNat
theorem gI_nat {A B : List Int} {x : Int} {a : Int} (h0 : 0 ≤ a) (h : A.length = a.toNat) : gI (A ++ x :: B) a = x := by
 unfold gI
 rw [List.getD_eq_getElem?_getD, ← h, List.getElem?_append_right (Nat.le_refl _), Nat.sub_self]
 rfl
theorem gI_nat1 {A B : List Int} {x y : Int} {a : Int} (h0 : 0 ≤ a) (h : A.length = a.toNat) : gI (A ++ x :: y :: B) (a + 1) = y := by
 have : A ++ x :: y :: B = (A ++ [x]) ++ y :: B := by simp
 rw [this]
 exact gI_nat (by lia) (by simp; lia)
theorem take_nat {A B : List Int} {a : Int} (h : A.length = a.toNat) : (A ++ B).take a.toNat = A := by rw [← h]; simp
theorem drop_nat {A B : List Int} {a : Int} (h : A.length = a.toNat) : (A ++ B).drop a.toNat = B := by rw [← h]; simp
theorem drop_nat2 {A B : List Int} {x y : Int} {a : Int} (h0 : 0 ≤ a) (h : A.length = a.toNat) : (A ++ x :: y :: B).drop (a + 2).toNat = B := by
 have : A ++ x :: y :: B = (A ++ [x, y]) ++ B := by simp
 rw [this]
 exact drop_nat (by simp; lia)
theorem swapN_cons {A B : List Int} {x y : Int} {k : Nat} (h : A.length = k) : swapN (A ++ x :: y :: B) k = A ++ y :: x :: B := by
 rw [← swapN_cut _ _ (by simp; lia)]
 have e1 := gI_nat (A := A) (B := y :: B) (x := x) (a := (k : Int)) (by lia) (by lia)
 have e2 := gI_nat1 (A := A) (B := B) (x := x) (y := y) (a := (k : Int)) (by lia) (by lia)
 have e3 := drop_nat2 (A := A) (B := B) (x := x) (y := y) (a := (k : Int)) (by lia) (by lia)
 have e4 := take_nat (A := A) (B := x :: y :: B) (a := (k : Int)) (by lia)
 unfold gI at e1 e2
 rw [show ((k : Int)).toNat = k by lia] at e1 e4
 rw [show ((k : Int) + 1).toNat = k + 1 by lia] at e2
 rw [show ((k : Int) + 2).toNat = k + 2 by lia] at e3
 rw [e1, e2, e3, e4]
 simp
end L2
namespace L2
open PySem PySem.Spec PyProof.Rows LM
noncomputable def Sm (w : List Int) : Prop := w.length ≤ 4000 ∧ ∀ x ∈ w, x.natAbs < 7
theorem gI_at {w : List Int} {a : Int} (h0 : 0 ≤ a) (h1 : a < w.length) : atI (w.map T.int) a = some (.int (gI w a)) := atI_ints w a h0 h1
theorem Sm.at {w : List Int} (h : Sm w) {a : Int} (h0 : 0 ≤ a) (h1 : a < w.length) : (gI w a).natAbs < 7 := by
 unfold gI
 rw [List.getD_eq_getElem?_getD, List.getElem?_eq_getElem (by lia)]
 exact h.2 _ (List.getElem_mem _)
inductive Stp where
 | far (a : Int)
 | three (a : Int)
 | out (a : Int)
 | inn (a l : Int)
noncomputable def Stp.t : Stp → List T
 | .far a => [.str "far", .int a]
 | .three a => [.str "three", .int a]
 | .out a => [.str "out", .int a]
 | .inn a l => [.str "in", .int a, .int l]
noncomputable def inB (n : Int) (w : List Int) (a l : Int) : Bool := decide (0 ≤ a ∧ a ≤ (w.length : Int)) && isLet n l
noncomputable def outL (w : List Int) (a : Int) : List Int := w.take a.toNat ++ w.drop (a + 2).toNat
noncomputable def aft (n : Int) (w : List Int) : Stp → Option (List Int)
 | .far a => if canFar w a then some (swapN w a.toNat) else none
 | .three a => if canThree w a then some (threeL w a) else none
 | .out a => if canOut w a then some (outL w a) else none
 | .inn a l => if inB n w a l then some (inL w a l) else none
theorem Sm.of {n : Int} {ws : List Int} (hl : ws.length ≤ 4000) (h6 : n ≤ 6) (hw : WordOK n ws) : Sm ws := ⟨hl, fun x hx => by
 have := hw x hx
 unfold LetOK at this
 lia⟩
theorem aft_far {n : Int} {w : List Int} {a : Int} : aft n w (.far a) = if canFar w a = true then some (swapN w a.toNat) else none := rfl
theorem aft_three {n : Int} {w : List Int} {a : Int} : aft n w (.three a) = if canThree w a = true then some (threeL w a) else none := rfl
theorem aft_out {n : Int} {w : List Int} {a : Int} : aft n w (.out a) = if canOut w a = true then some (outL w a) else none := rfl
theorem aft_inn {n : Int} {w : List Int} {a l : Int} : aft n w (.inn a l) = if inB n w a l = true then some (inL w a l) else none := rfl
end L2
namespace L2
open PySem PySem.Spec PyProof.Rows LM
theorem Sub.mk1 {A M : MH} {q : Nat} {o : MO} (h : Sub A M) (hq : M q = some o) : Sub (updM A q o) M := by
 intro x v hx
 by_cases e : x = q
 · rw [e] at hx ⊢
   rw [updM_same] at hx
   rw [hq, ← hx]
 · rw [updM_ne e] at hx
   exact h x v hx
end L2
namespace L2
open PySem PySem.Spec PyProof.Rows LM
inductive Mv where
 | step (s : Stp)
 | round
 | back
 | less
 | flip
 | more (k : Int)
noncomputable def Mv.t : Mv → List T
 | .step s => [.str "step", .tup s.t]
 | .round => [.str "round"]
 | .back => [.str "back"]
 | .less => [.str "less"]
 | .flip => [.str "flip"]
 | .more k => [.str "more", .int k]
noncomputable def mvT (m : Mv) : T := .tup m.t
inductive Why where
 | ok
 | step
 | room
noncomputable def lessR (n : Int) : List Int → Bool
 | [] => false
 | x :: r => decide ((x.natAbs : Int) = n - 1) && r.all fun l => decide ((l.natAbs : Int) ≠ n - 1)
noncomputable def lessB (n : Int) (w : List Int) : Bool := lessR n w.reverse
noncomputable def mvWhy (n : Int) (w : List Int) : Mv → Why
 | .more k => if n = 6 ∨ w.length = 16 then .room else if k = 1 ∨ k = -1 then .ok else .step
 | .less => if lessB n w then .ok else .step
 | .round => if w.isEmpty then .step else .ok
 | .back => if w.isEmpty then .step else .ok
 | .flip => .ok
 | .step s => match aft n w s with
   | none => .step
   | some r => if 16 < r.length then .room else .ok
noncomputable def lastL (w : List Int) : List Int := w.drop (w.length - 1)
noncomputable def mvTo (n : Int) (w : List Int) : Mv → Int × List Int
 | .more k => (n + 1, w ++ [k * n])
 | .less => (n - 1, w.dropLast)
 | .flip => (n, w.map (flipL n))
 | .round => (n, w.drop 1 ++ w.take 1)
 | .back => (n, lastL w ++ w.dropLast)
 | .step s => (n, (aft n w s).getD w)
noncomputable def ptT (p : Int × List Int) : T := .tup [.int p.1, .tup (p.2.map .int)]
theorem lastL_snoc (A : List Int) (y : Int) : lastL (A ++ [y]) = [y] := by
 unfold lastL
 rw [List.length_append, List.length_singleton, Nat.add_sub_cancel, List.drop_left]
theorem snoc_of {w : List Int} (h : w ≠ []) : ∃ A y, w = A ++ [y] := by
 rcases List.eq_nil_or_concat w with e | ⟨A, y, e⟩
 · exact absurd e h
 · exact ⟨A, y, by rw [e, List.concat_eq_append]⟩
theorem lessB_snoc (n : Int) (A : List Int) (y : Int) : lessB n (A ++ [y]) = (decide ((y.natAbs : Int) = n - 1) && A.all fun l => decide ((l.natAbs : Int) ≠ n - 1)) := by
 unfold lessB
 rw [List.reverse_append, List.reverse_singleton, List.singleton_append]
 show (decide ((y.natAbs : Int) = n - 1) && (A.reverse.all fun l => decide ((l.natAbs : Int) ≠ n - 1))) = _
 rw [List.all_reverse]
theorem lessB_iff {n : Int} {w : List Int} : lessB n w = true ↔ ∃ A y, w = A ++ [y] ∧ (y.natAbs : Int) = n - 1 ∧ ∀ l ∈ A, (l.natAbs : Int) ≠ n - 1 := by
 constructor
 · intro h
   by_cases e : w = []
   · subst e; cases h
   · obtain ⟨A, y, rfl⟩ := snoc_of e
     rw [lessB_snoc] at h
     simp only [Bool.and_eq_true, decide_eq_true_eq, List.all_eq_true] at h
     exact ⟨A, y, rfl, h.1, h.2⟩
 · rintro ⟨A, y, rfl, h1, h2⟩
   rw [lessB_snoc]
   simp only [Bool.and_eq_true, decide_eq_true_eq, List.all_eq_true]
   exact ⟨h1, h2⟩
theorem mvWhy_step (n : Int) (w : List Int) (s : Stp) : mvWhy n w (.step s) = (match aft n w s with | none => .step | some r => if 16 < r.length then .room else .ok) := rfl
theorem mvTo_step (n : Int) (w : List Int) (s : Stp) : mvTo n w (.step s) = (n, (aft n w s).getD w) := rfl
theorem mvWhy_less (n : Int) (w : List Int) : mvWhy n w .less = if lessB n w then .ok else .step := rfl
theorem mvTo_less (n : Int) (w : List Int) : mvTo n w .less = (n - 1, w.dropLast) := rfl
theorem mvWhy_more (n : Int) (w : List Int) (k : Int) : mvWhy n w (.more k) = if n = 6 ∨ w.length = 16 then .room else if k = 1 ∨ k = -1 then .ok else .step := rfl
theorem cutT_backM (A : List Int) (y : Int) : cutT ((A ++ [y]).map T.int) none (some (-1)) = A.map T.int := by
 unfold cutT
 rw [List.map_append, List.length_append, List.length_map]
 have e : HT.sIx (A.length + (List.map T.int [y]).length) (A.length + (List.map T.int [y]).length) (some (-1)) = A.length := by
   show (if (-1 : Int) < 0 then ((-1 : Int) + ((A.length + 1 : Nat) : Int)).toNat else min (-1 : Int).toNat (A.length + 1)) = _
   rw [if_pos (by lia)]
   lia
 rw [e, HT.sIx_none, List.drop_zero, Nat.sub_zero, List.take_append_of_le_length (by rw [List.length_map]; exact Nat.le_refl _), List.take_of_length_le (by rw [List.length_map]; exact Nat.le_refl _)]
theorem cutT_lastM (A : List Int) (y : Int) : cutT ((A ++ [y]).map T.int) (some (-1)) none = [y].map T.int := by
 unfold cutT
 rw [List.map_append, List.length_append, List.length_map]
 have e : HT.sIx (A.length + (List.map T.int [y]).length) 0 (some (-1)) = A.length := by
   show (if (-1 : Int) < 0 then ((-1 : Int) + ((A.length + 1 : Nat) : Int)).toNat else min (-1 : Int).toNat (A.length + 1)) = _
   rw [if_pos (by lia)]
   lia
 rw [e, HT.sIx_none, List.drop_append_of_le_length (by rw [List.length_map]; exact Nat.le_refl _), List.drop_of_length_le (by rw [List.length_map]; exact Nat.le_refl _), List.nil_append]
 exact List.take_of_length_le (by show 1 ≤ A.length + 1 - A.length; lia)
noncomputable def lessP (n : Int) (ws : List Int) : List Nat := (List.range ws.length).filter fun i => decide (((ws.getD i 0).natAbs : Int) = n - 1)
theorem lessP_snoc (n : Int) (A : List Int) (y : Int) : lessP n (A ++ [y]) = lessP n A ++ if (y.natAbs : Int) = n - 1 then [A.length] else [] := by
 unfold lessP
 rw [List.length_append, List.length_singleton, List.range_succ, List.filter_append]
 congr 1
 · apply List.filter_congr
   intro i hi
   rw [List.getD_eq_getElem?_getD, List.getD_eq_getElem?_getD, List.getElem?_append_left (List.mem_range.mp hi)]
 · rw [List.filter_cons, List.getD_eq_getElem?_getD, List.getElem?_append_right (Nat.le_refl _)]
   simp only [Nat.sub_self, List.getElem?_cons_zero, Option.getD_some, List.filter_nil, decide_eq_true_eq]
theorem lessP_nil {n : Int} {w : List Int} : lessP n w = [] ↔ ∀ l ∈ w, (l.natAbs : Int) ≠ n - 1 := by
 unfold lessP
 rw [List.filter_eq_nil_iff]
 constructor
 · intro h l hl
   obtain ⟨i, hi, rfl⟩ := List.getElem_of_mem hl
   have := h i (List.mem_range.mpr hi)
   rw [List.getD_eq_getElem?_getD, List.getElem?_eq_getElem hi] at this
   simpa using this
 · intro h i hi
   have hi := List.mem_range.mp hi
   rw [List.getD_eq_getElem?_getD, List.getElem?_eq_getElem hi]
   simpa using h _ (List.getElem_mem hi)
theorem lessP_lt {n : Int} {w : List Int} {i : Nat} (h : i ∈ lessP n w) : i < w.length := List.mem_range.mp (List.mem_filter.mp h).1
theorem lessB_places (n : Int) (w : List Int) : lessB n w = eqTs ((lessP n w).map fun i => T.int (i : Nat)) [T.int ((w.length : Int) - 1)] := by
 by_cases e : w = []
 · subst e; rfl
 · obtain ⟨A, y, rfl⟩ := snoc_of e
   rw [lessB_snoc, lessP_snoc, List.length_append, List.length_singleton]
   have e0 : (((A.length + 1 : Nat) : Int) - 1) = (A.length : Int) := by lia
   rw [e0]
   have hA : (A.all fun l => decide ((l.natAbs : Int) ≠ n - 1)) = (lessP n A).isEmpty := by
     rw [Bool.eq_iff_iff, List.all_eq_true, List.isEmpty_iff, lessP_nil]
     simp only [decide_eq_true_eq]
   rw [hA]
   cases h : lessP n A with
   | nil =>
     by_cases c : (y.natAbs : Int) = n - 1
     · rw [if_pos c, decide_eq_true c]
       show true = (decide ((A.length : Int) = (A.length : Int)) && true)
       rw [decide_eq_true rfl]
       rfl
     · rw [if_neg c, decide_eq_false c]
       rfl
   | cons z Z =>
     have hz : z < A.length := lessP_lt (by rw [h]; exact List.mem_cons_self)
     rw [List.isEmpty_cons, Bool.and_false]
     show false = (decide ((z : Int) = (A.length : Int)) && _)
     rw [decide_eq_false (by lia), Bool.false_and]
theorem nats_pure : ∀ L : List Nat, pureTs (L.map fun i => T.int (i : Nat)) = true
 | [] => rfl
 | _ :: L => by rw [List.map_cons, pureTs_cons, nats_pure L]; rfl
theorem nats_dep : ∀ L : List Nat, depTs (L.map fun i => T.int (i : Nat)) = 0
 | [] => rfl
 | _ :: L => by rw [List.map_cons, depTs_cons, nats_dep L]; rfl
theorem lessP_pure (L : List Nat) : pureTs (L.map fun i => T.int (i : Nat)) = true := nats_pure L
theorem lessP_dep (L : List Nat) : depTs (L.map fun i => T.int (i : Nat)) ≤ 30 := by rw [nats_dep]; lia
end L2
namespace L2
open PySem PySem.Spec PyProof.Rows LM
end L2
namespace L2
open PySem PySem.Spec PyProof.Rows LM
noncomputable def sw (l x : Int) : Int := if x = l - 1 then l else if x = l then l - 1 else x
noncomputable def IsP (n : Int) (r : List Int) : Prop := r.Perm (range0 n)
theorem IsP.len {n : Int} {r : List Int} (h : IsP n r) : r.length = n.toNat := by rw [h.length_eq, range0_length]
theorem IsP.mem {n x : Int} {r : List Int} (h : IsP n r) : x ∈ r ↔ 0 ≤ x ∧ x < n := by
 rw [h.mem_iff]
 exact ⟨mem_range0, fun z => range0_mem z.1 z.2⟩
theorem rangeT_range0 (n : Int) : rangeT 0 n.toNat = (range0 n).map .int := by
 unfold rangeT range0
 rw [List.map_map]
 exact List.map_congr_left fun i _ => by show T.int (0 + (i : Nat)) = T.int (i : Nat); rw [Int.zero_add]
theorem range0_sorted (n : Int) : (range0 n).Pairwise (· ≤ ·) := by
 unfold range0
 rw [List.pairwise_map]
 exact List.Pairwise.imp (fun h => by lia) List.pairwise_lt_range
end L2
namespace L2
open PySem PySem.Spec PyProof.Rows LM
end L2
namespace L2
open PySem PySem.Spec PyProof.Rows LM
end L2
namespace L2
open PySem PySem.Spec PyProof.Rows LM
end L2
namespace L2
open PySem PySem.Spec PyProof.Rows LM
end L2
namespace L2
open PySem PySem.Spec PyProof.Rows LM
end L2
namespace L2
open PySem PySem.Spec PyProof.Rows LM
theorem seq_cut {a b : TS3} {D : Ends3} {ρ : En} {M : MH} (h : ∀ K : En → MH → Prop, K = b D → a { D with nx := K } ρ M) : tSeq3 a b D ρ M := h _ rfl
theorem seq_cut2 {a b c : TS3} {D : Ends3} {ρ : En} {M : MH} (h : ∀ K : En → MH → Prop, K = c D → tSeq3 a b { D with nx := K } ρ M) : tSeq3 a (tSeq3 b c) D ρ M := h _ rfl
theorem seq_cut3 {a b c d : TS3} {D : Ends3} {ρ : En} {M : MH} (h : ∀ K : En → MH → Prop, K = d D → tSeq3 a (tSeq3 b c) { D with nx := K } ρ M) : tSeq3 a (tSeq3 b (tSeq3 c d)) D ρ M := h _ rfl
theorem seq_cut4 {a b c d e : TS3} {D : Ends3} {ρ : En} {M : MH} (h : ∀ K : En → MH → Prop, K = e D → tSeq3 a (tSeq3 b (tSeq3 c d)) { D with nx := K } ρ M) : tSeq3 a (tSeq3 b (tSeq3 c (tSeq3 d e))) D ρ M := h _ rfl
end L2
namespace L2
open PySem PySem.Spec PyProof.Rows LM
end L2
namespace L2
open PySem PySem.Spec PyProof.Rows LM
theorem sw_sw (l x : Int) : sw l (sw l x) = x := by
 unfold sw
 split
 · rename_i h; rw [if_neg (by lia), if_pos rfl]; lia
 · split
   · rename_i h1 h2; rw [if_pos rfl]; lia
   · rename_i h1 h2; rfl
end L2
namespace L2
open PySem PySem.Spec PyProof.Rows LM
theorem sw_rng {l k : Int} {n : Int} (h1 : 1 ≤ l) (h2 : l < n) (h0 : 0 ≤ k) (hk : k < n) : 0 ≤ sw l k ∧ sw l k < n := by
 unfold sw
 split
 · lia
 · split <;> lia
end L2
namespace L2
open PySem PySem.Spec PyProof.Rows LM
end L2
namespace L2
open PySem PySem.Spec PyProof.Rows LM
theorem gI_get {u : List Int} {j : Nat} (h : j < u.length) : gI u j = u[j] := by
 unfold gI
 rw [Int.toNat_natCast, List.getD_eq_getElem?_getD, List.getElem?_eq_getElem h]
 rfl
theorem gI_rng {n : Int} {u : List Int} (hu : IsP n u) {j : Nat} (h : j < u.length) : 0 ≤ gI u j ∧ gI u j < n := by
 rw [gI_get h]
 exact hu.mem.mp (List.getElem_mem h)
theorem gI_range0 {n : Int} {k : Int} (h0 : 0 ≤ k) (h1 : k < n) : gI (range0 n) k = k := range0_get n k h0 h1
end L2
namespace L2
open PySem PySem.Spec PyProof.Rows LM
end L2
namespace L2
open PySem PySem.Spec PyProof.Rows LM
end L2
namespace L2
open PySem PySem.Spec PyProof.Rows LM
end L2
namespace L2
open PySem PySem.Spec PyProof.Rows LM
end L2
namespace L2
open PySem PySem.Spec PyProof.Rows LM
end L2
namespace L2
open PySem PySem.Spec PyProof.Rows LM
end L2
namespace L2
open PySem PySem.Spec PyProof.Rows LM
end L2
namespace L2
open PySem PySem.Spec PyProof.Rows LM
end L2
namespace L2
open PySem PySem.Spec PyProof.Rows LM
end L2
namespace L2
open PySem PySem.Spec PyProof.Rows LM
end L2
namespace L2
open PySem PySem.Spec PyProof.Rows LM
end L2
namespace LM
end LM
namespace L2
open PySem PySem.Spec PyProof.Rows LM
end L2
namespace LM
end LM
namespace L2
open PySem PySem.Spec PyProof.Rows LM
section
variable {n : Int} (h6 : n ≤ 6)
include h6
end
end L2
namespace L2
open PySem PySem.Spec PyProof.Rows LM
theorem gI_rngI {n : Int} {u : List Int} (hu : IsP n u) {k : Int} (h0 : 0 ≤ k) (h1 : k < n) : 0 ≤ gI u k ∧ gI u k < n := by
 have := gI_rng hu (j := k.toNat) (by have := hu.len; lia)
 rwa [Int.toNat_of_nonneg h0] at this
end L2
namespace L2
open PySem PySem.Spec PyProof.Rows LM
end L2
namespace L2
open PySem PySem.Spec PyProof.Rows LM
end L2
namespace L2
open PySem PySem.Spec PyProof.Rows LM
end L2
namespace L2
open PySem PySem.Spec PyProof.Rows LM
section
variable {n : Int}
end
end L2
namespace L2
open PySem PySem.Spec PyProof.Rows LM
section
variable {n : Int}
end
end L2
namespace L2
open PySem PySem.Spec PyProof.Rows LM
end L2
namespace L2
open PySem PySem.Spec PyProof.Rows LM
section
variable {n : Int}
end
end L2
namespace L2
open PySem PySem.Spec PyProof.Rows
noncomputable def rangeD (hi : Int) (n : Nat) : List T := (List.range n).map fun i => T.int (hi - (i : Nat))
section
variable {X : Cx} {a b c : Expr} {t : TA3} {pos : Pos}
noncomputable def iRng3_3 (t : TA3) : TI3 := fun ρ M R => t ρ M fun xs M1 => match xs with
 | [.int i, .int j, .int s] => (s = -1 ∧ -(2 ^ 62) ≤ i ∧ i < 2 ^ 62 ∧ -(2 ^ 62) ≤ j ∧ j < 2 ^ 62) ∧ R ⟨rangeD i (i - j).toNat, fun _ => True⟩ M1
 | _ => False
end
end L2
namespace L2
open PySem PySem.Spec PyProof.Rows
section
variable {X : Cx}
end
end L2
namespace L2
open PySem PySem.Spec PyProof.Rows LM
end L2
namespace L2
open PySem PySem.Spec PyProof.Rows
theorem Inv.turnNew {X : Cx} {pins : List (Addr × Obj)} {σ : St} {H : Hp} {s : Shared} {h' : Heap} {t' : Nat} {e it T : Addr} {xs : List V} (I : Inv X pins σ H s) (fe : FpOk X pins H e) (fi : FpOk X pins H it)
   (k : ∀ b o, b ≠ e → b ≠ it → s.heap.get? b = some o → h'.get? b = some o) (hT : s.heap.objs.size ≤ T) (new : ObjOk X.prog X.w (upd H T (.tup xs)) h' T (.tup xs)) :
   Inv X pins σ (upd H T (.tup xs)) { s with heap := h', toks := t' } := by
 have hn : H T = none := I.hok.fresh hT
 have ne : ∀ b u, H b = some u → b ≠ e ∧ b ≠ it := fun b u q => ⟨fun z => (by rw [z, fe.1] at q; cases q), fun z => (by rw [z, fi.1] at q; cases q)⟩
 have nc : ∀ {b : Addr}, b ∉ [e, it] → b ≠ e ∧ b ≠ it := fun hc => ⟨fun z => hc (by simp [z]), fun z => hc (by simp [z])⟩
 refine I.step (g' := s.gens) (d' := s.drawn) (ch := [e, it]) (fun b hb => ?_) (fun b o _ _ hc q _ => k b o (nc hc).1 (nc hc).2 q) (fun b o _ _ hc q _ => ⟨o.slots, k b o (nc hc).1 (nc hc).2 q⟩)
   (fun b o _ q n => by rw [upd_ne (Nat.ne_of_lt (Nat.lt_of_lt_of_le (Heap.lt_size q) hT))]; exact n)
   (fun b o hc q => ⟨o, k b o (nc hc).1 (nc hc).2 q⟩) (fun b xs q => by rw [upd_ne (ne_of_none q hn)]; exact q) (fun b o u q => by rw [upd_ne (ne_of_none q hn)]; exact q) (fun b ps q => ⟨#[], by rw [upd_ne (ne_of_none q hn), q]; simp⟩) (fun m hm => ?_) (fun b u q => ?_) I.bare
 · have z : b = e ∨ b = it := by simpa using hb
   rcases z with rfl | rfl
   · exact ⟨fe.2.2.2.1, fe.2.1, fe.2.2.2.2.1, fe.2.2.2.2.2⟩
   · exact ⟨fi.2.2.2.1, fi.2.1, fi.2.2.2.2.1, fi.2.2.2.2.2⟩
 · obtain ⟨o, es, ep, ho, r⟩ := hm
   exact ⟨o, es, ep, k _ o (Ne.symm fe.2.1) (Ne.symm fi.2.1) ho, r⟩
 · by_cases hb : b = T
   · subst hb; rw [upd_same] at q; cases q; exact new
   · rw [upd_ne hb] at q
     refine (I.hok b u q).stay (fun c v hc z => ?_) (fun c z => by rw [upd_ne (ne_of_none z hn)]; exact z) fun c xs z => by rw [upd_ne (ne_of_none z hn)]; exact z
     rcases hc with y | y
     · rw [y] at z ⊢; exact k b v (ne b u q).1 (ne b u q).2 z
     · exact k c v (ne c _ y).1 (ne c _ y).2 z
noncomputable def Iten (K : PySem.W.Frag) (a : Addr) (n : Nat) : It :=
 ⟨fun i H => i < n ∧ ∃ xs, SqL K H a xs ∧ xs.length = n, fun i H x H' => ∃ T y, x = .ref T ∧ H T = none ∧ H' = upd H T (.tup [.int i, y]) ∧ ∀ xs, SqL K H a xs → xs[i]? = some y, fun i H => i = n ∧ ∃ xs, SqL K H a xs ∧ xs.length = n⟩
theorem turn_enum {P : Program} {w : World} {K : PySem.W.Frag} {es : List Expr} {x1} {tp : Pos} (a e it : Addr) (n : Nat) (hne : e ≠ it) : Turn P w K (.Tuple es x1 tp) (Iten K a n) [e, it] e (fun i h => (∃ old, IsEnum h e it (i : Int) old) ∧ Heap.IsListIter h it a i) where
 mem := by simp
 obj := fun i h st b hb => by
   obtain ⟨⟨old, he⟩, hit⟩ := st
   have z : b = e ∨ b = it := by simpa using hb
   rcases z with rfl | rfl
   · exact ⟨_, he, fun v z => by cases z⟩
   · obtain ⟨o, q, c, d⟩ := hit
     exact ⟨o, q, fun v z => by rw [d] at z; cases z⟩
 keep := fun i h h' st k => by
   obtain ⟨⟨old, he⟩, hit⟩ := st
   exact ⟨⟨old, k e (by simp) _ he⟩, hit.at fun o q => k it (by simp) o q⟩
 item := by
   intro X hP hw hK hc i pins s σ H E I hf st hg
   subst hP hw hK
   obtain ⟨⟨old, he⟩, hit⟩ := st
   obtain ⟨hi, xs, hq, hxn⟩ := hg
   subst hxn
   obtain ⟨its, rv, p, hz⟩ := I.list hq
   obtain ⟨x, hx⟩ : ∃ x, xs[i]? = some x := ⟨_, List.getElem?_eq_getElem hi⟩
   obtain ⟨u, hu, ru⟩ := rv.get hx
   have fe := hf e (by simp)
   have fi := hf it (by simp)
   refine wpAny_pyNext_enum_item he hit p.isList (x := u) (by simpa using hu) hne fun h1 ho hit1 hT hsz hk => ?_
   refine ⟨_, rfl, wpAny_letOwnedTupleGo_enum ho fun h2 he2 hs2 => ?_⟩
   have neT : s.heap.objs.size ≠ e := Nat.ne_of_gt (Heap.lt_size he)
   have k2 : ∀ b o, b ≠ e → b ≠ it → s.heap.get? b = some o → h2.get? b = some o := fun b o h3 h4 q => (hs2.2 b h3).trans (hk b o h3 h4 q)
   have hT2 : h2.get? s.heap.objs.size = some { cls := .type "tuple", data := .seq #[.int i s.toks, u] } := (hs2.2 _ neT).trans hT
   have hn : H s.heap.objs.size = none := I.hok.fresh (Nat.le_refl _)
   have I2 : Inv X pins σ (upd H s.heap.objs.size (.tup [.int i, x])) { s with heap := h2, toks := s.toks + 1 } := I.turnNew fe fi k2 (Nat.le_refl _)
     ⟨by simp only [List.length_cons, List.length_nil]; rw [sizeLine_eq]; decide, [.int i s.toks, u], .cons ⟨_, rfl⟩ (.cons ru .nil), _, hT2, rfl, rfl, _, rfl⟩
   refine ⟨.ref s.heap.objs.size, _, I2, rfl, ⟨_, x, rfl, hn, rfl, fun ys hy => by rw [I.list_inj hy hq]; exact hx⟩, ⟨⟨_, he2⟩, hit1.at fun o q => (hs2.2 it hne.symm).trans q⟩, fun b hb => ?_⟩
   have z : b = e ∨ b = it := by simpa using hb
   have hb' : b < s.heap.objs.size := by
     rcases z with rfl | rfl
     · exact Heap.lt_size he
     · obtain ⟨o, q, _⟩ := hit
       exact Heap.lt_size q
   rw [upd_ne (Nat.ne_of_lt hb')]
   exact (hf b hb).1
 done := by
   intro X hP hw hK hc i pins s σ H E I hf st hg
   subst hP hw hK
   obtain ⟨⟨old, he⟩, hit⟩ := st
   obtain ⟨hi, xs, hq, hxn⟩ := hg
   subst hi
   obtain ⟨its, rv, p, hz⟩ := I.list hq
   have hl := rv.length
   obtain ⟨f0, f1, f2, f3, f4, f5⟩ := hf it (by simp)
   exact wpAny_pyNext_enum_end (I.ok.hd hc) he hit p.isList (Array.getElem?_eq_none (by simp; lia)) fun h' eb => ⟨rfl, I.turned (t' := s.toks) (fun b o hb e => eb b o hb e) f0 f1 f3 f4 f5⟩
 self := fun A i s Q E st h => by
   obtain ⟨⟨old, he⟩, _⟩ := st
   exact wpAny_pyIter_enum he h
theorem for_cut {i : TI3} {g : TG3} {b : TS3} {D : Ends3} {ρ : En} {M : MH} (h : ∀ B : TS3, B = b → tFor3 i g B D ρ M) : tFor3 i g b D ρ M := h _ rfl
section
variable {X : Cx}
noncomputable def enT (ts : List T) : List T := (List.range ts.length).map fun i => .tup [.int (i : Nat), ts.getD i .non]
theorem enT_length (ts : List T) : (enT ts).length = ts.length := by unfold enT; rw [List.length_map, List.length_range]
theorem enT_get {ts : List T} {i : Nat} {x : T} (h : (enT ts)[i]? = some x) : ∃ t, ts[i]? = some t ∧ x = .tup [.int i, t] := by
 have hi : i < ts.length := by have := (List.getElem?_eq_some_iff.mp h).1; rwa [enT_length] at this
 unfold enT at h
 rw [List.getElem?_map, List.getElem?_range hi] at h
 refine ⟨ts[i], List.getElem?_eq_getElem hi, ?_⟩
 have e : ts.getD i .non = ts[i] := by rw [List.getD_eq_getElem?_getD, List.getElem?_eq_getElem hi]; rfl
 rw [← e]
 exact (Option.some.inj h).symm
theorem itok_enum {K : PySem.W.Frag} {H : Hp} {a : Addr} {ts : List T} : ItOk K H (Iten K a ts.length) ⟨enT ts, fun M' => M' a = some (.lst ts)⟩ := by
 refine ⟨fun H' M' k hh st => ?_, fun i x H' M' e k hh st => ?_⟩
 · obtain ⟨xs, g1, g2⟩ := hh _ _ st
   exact ⟨by show (enT ts).length = _; rw [enT_length], xs, SqL.of g1, g2.length⟩
 · obtain ⟨t, ht, rfl⟩ := enT_get e
   obtain ⟨xs, g1, g2⟩ := hh _ _ st
   obtain ⟨v, e1, r1⟩ := g2.get ht
   refine ⟨⟨(List.getElem?_eq_some_iff.mp ht).1, xs, SqL.of g1, g2.length⟩, fun v' H'' y => ?_⟩
   obtain ⟨p, y, rfl, hn, rfl, hy⟩ := y
   have e2 := hy xs (SqL.of g1)
   rw [e1] at e2
   cases e2
   refine ⟨Kp.new hn, hh.keep hn, rep_tup (SqT.of upd_same) ?_⟩
   unfold Reps
   refine ⟨_, _, rfl, rep_int, ?_⟩
   unfold Reps
   refine ⟨_, _, rfl, Rep.kp (Kp.new hn) _ _ r1, ?_⟩
   unfold Reps
   rfl
noncomputable def iEnum (tl : TE3) : TI3 := fun ρ M R => tl ρ M fun x M1 => match x with
 | .adr p => (match M1 p with | some (.lst ts) => R ⟨enT ts, fun M' => M' p = some (.lst ts)⟩ M1 | _ => False)
 | _ => False
theorem i_enum {es : List Expr} {x1} {tp pos : Pos} {l : Expr} {tl : TE3} {p : Pos} (hm : X.mg "enumerate" = none) (hl : HE X l tl) (hg : Gl X "enumerate" := by rfl) (hs : starEach [l] X.env = [(false, eval l X.env)] := by rfl) : HI X (.Tuple es x1 tp) (.Call (.Name "enumerate" p) [l] [] pos) (iEnum tl) := by
 intro ρ M R h pins s σ H R2 I b
 obtain ⟨hr, hh, en⟩ := b
 have pa := pa_cons (X := X) (hl.d (ρ := ρ)) pa_nil hs
 refine Call_ (ld_blt I hg hm PyProof.Rows.boot_enumerate (PyProof.Rows.callWith_type1 (thn (pa pos pins s σ H (fun vs H1 => ∃ v t M1, vs = [v] ∧ Kp X.K H H1 ∧ HR X.K H1 M1 ∧ Rep X.K H1 v t ∧ (match t with
   | .adr p => (match M1 p with | some (.lst ts) => R ⟨enT ts, fun M' => M' p = some (.lst ts)⟩ M1 | _ => False)
   | _ => False)) I ⟨M, _, h, hr, hh, fun t v M1 H1 k1 h1 r1 q1 => ⟨v, t, M1, rfl, k1, h1, r1, q1⟩⟩) fun us s1 ⟨vs, H1, I1, r1, v, t, M1, e, k1, h1, rt, q1⟩ => ?_) hs rfl))
 subst e
 cases r1 with
 | cons r rr =>
   cases rr
   split at q1
   · rename_i a
     obtain rfl := inv_adr rt
     cases r
     split at q1
     · rename_i ts e0
       obtain ⟨xs, g1, g2⟩ := h1 _ _ e0
       obtain ⟨its, rv, p, hz⟩ := I1.list (SqL.of g1)
       refine call_enumerate_list p.isList fun h' he hit hsz hk => ?_
       refine wpAny_pyIter_enum (s := { s1 with heap := h' }) he ?_
       refine ⟨s1.heap.objs.size + 1, [s1.heap.objs.size + 1, s1.heap.objs.size], _, _, H1, rfl, I1.kept (t' := s1.toks) hk, turn_enum a _ _ ts.length (Nat.succ_ne_self _), ⟨⟨_, he⟩, hit⟩, fun b hb => ?_, en _ _ M1 H1 k1 h1 itok_enum q1⟩
       have z : b = s1.heap.objs.size + 1 ∨ b = s1.heap.objs.size := by simpa using hb
       rcases z with rfl | rfl
       · exact I1.fpOk (Nat.le_succ _) (I1.hok.fresh (Nat.le_succ _))
       · exact I1.fpOk (Nat.le_refl _) (I1.hok.fresh (Nat.le_refl _))
     · exact q1.elim
   · exact q1.elim
end
end L2
namespace L2
open PySem PySem.Spec PyProof.Rows
section
variable {X : Cx} {pins : List (Addr × Obj)} {σ : St} {H : Hp} {s : Shared}
end
end L2
namespace L2
open PySem PySem.Spec PyProof.Rows
section
variable {X : Cx} {Ha : Hp} {a b c e : Expr} {es : List Expr} {st : Stmt} {rest ba bb body : List Stmt} {ta tb te : TE3} {tA : TT3} {t u : TS3} {pos : Pos}
end
section
variable {X : Cx} {Ha : Hp} {e : Expr} {es : List Expr} {t : TA3} {pos : Pos}
end
end L2
namespace L2
open PySem PySem.Spec PyProof.Rows
section
variable {X : Cx} {Ha : Hp} {e : Expr} {te : TE3} {pos : Pos}
end
section
variable {P : Program} {w : World} {K : PySem.W.Frag} {mg : Str → Option Value} {base : Heap}
end
end L2
namespace L2
open PySem PySem.Spec PyProof.Rows
section
variable {prog : Program} {w : World} {A : Around} {E : Value → Shared → Prop} {s : Shared} {h : Heap} {g : Array GenState} {d : Drawn} {t : Nat} {os : OsState} {a C : Addr} {o : Obj} {K : PySem.W.Frag}
local macro_rules | `(tactic| walk_at "xc") => `(tactic| (repeat any_goals (first | wp_step | assumption)))
end
end L2
namespace L2
open PySem PySem.Spec PyProof.Rows
end L2
namespace L2
open PySem PySem.Spec PyProof.Rows
section
variable {X : Cx} {pos : Pos}
end
end L2
namespace L2
open PySem PySem.Spec PyProof.Rows
section
variable {X : Cx} {pins : List (Addr × Obj)} {σ : St} {H : Hp} {s : Shared}
end
end L2
namespace L2
open PySem PySem.Spec PyProof.Rows
local macro_rules | `(tactic| walk_at "xc") => `(tactic| (repeat any_goals (first | wp_step | assumption)))
section
variable {X : Cx} {pos : Pos}
end
end L2
namespace L2
open PySem PySem.Spec PyProof.Rows
section
variable {X : Cx} {pins : List (Addr × Obj)} {σ σ' : St} {H : Hp} {s : Shared}
end
end L2
namespace L2
open PySem PySem.Spec PyProof.Rows
section
variable {X : Cx} {body : List Stmt}
end
end L2
namespace L2
open PySem PySem.Spec PyProof.Rows
section
variable {K : PySem.W.Frag} {mg : Str → Option Value} {P : Addr} {cs : List (Str × Addr)}
end
section
variable {X : Cx}
end
end L2
namespace L2
open PySem PySem.Spec PyProof.Rows
end L2
namespace L2
open PySem PySem.Spec PyProof.Rows
section
variable {X : Cx}
theorem rep2 {K : PySem.W.Frag} {H : Hp} {vs : List V} {x y : T} (r : Reps K H vs [x, y]) : ∃ v w, vs = [v, w] ∧ Rep K H v x ∧ Rep K H w y := by
 unfold Reps at r
 obtain ⟨v, w, rfl, h, r⟩ := r
 obtain ⟨v2, rfl, h2⟩ := reps1 r
 exact ⟨_, _, rfl, h, h2⟩
noncomputable def rMax3 : List T → MH → VK3 → Prop := fun xs M Q => match xs with
 | [.int i, .int j] => Q (.int (if j > i then j else i)) M
 | _ => False
theorem call3_max (hc : X.calm = true) : CallR3 X (.builtin "max") rMax3 := by
 intro pins s σ H vs us Q2 I r h
 obtain ⟨xs, M, Q, rr, hh, q, en⟩ := h
 unfold rMax3 at q
 split at q
 · rename_i i j
   obtain ⟨v, w, rfl, r1, r2⟩ := rep2 rr
   obtain rfl := inv_int r1
   obtain rfl := inv_int r2
   exact call_max2 hc pins s σ H _ us Q2 I r ⟨_, _, rfl, en _ _ M H Kp.refl hh rep_int q⟩
 · exact q.elim
noncomputable def rMin3 : List T → MH → VK3 → Prop := fun xs M Q => match xs with
 | [.int i, .int j] => Q (.int (if j < i then j else i)) M
 | _ => False
theorem call3_min (hc : X.calm = true) : CallR3 X (.builtin "min") rMin3 := by
 intro pins s σ H vs us Q2 I r h
 obtain ⟨xs, M, Q, rr, hh, q, en⟩ := h
 unfold rMin3 at q
 split at q
 · rename_i i j
   obtain ⟨v, w, rfl, r1, r2⟩ := rep2 rr
   obtain rfl := inv_int r1
   obtain rfl := inv_int r2
   exact call_min2 hc pins s σ H _ us Q2 I r ⟨_, _, rfl, en _ _ M H Kp.refl hh rep_int q⟩
 · exact q.elim
end
end L2
namespace L2
open PySem PySem.Spec PyProof.Rows
end L2
namespace L2
open PySem PySem.Spec PyProof.Rows
structure CanK (K : PySem.W.Frag) (P : Program) (w : World) (d : Addr) (ks : List (Str × Addr)) : Prop where
 ok : ∃ o, K.lookup d = some o ∧ o.IsDictOf (strKind P w) (ks.map fun p => (p.1, Value.ref p.2))
 ns : (d == sysModules) = false
noncomputable def canAt (ks : List (Str × Addr)) (z : Str) : Option Addr := (ks.find? fun p => p.1 = z).map (·.2)
theorem canAt_val (ks : List (Str × Addr)) (z : Str) : valueAt (ks.map fun p => (p.1, Value.ref p.2)) z = (canAt ks z).map Value.ref := by
 unfold valueAt canAt
 induction ks with
 | nil => rfl
 | cons p ks ih =>
   rw [List.map_cons, List.find?_cons, List.find?_cons]
   by_cases c : p.1 = z
   · simp [c]
   · simp only [c, decide_false]
     exact ih
section
variable {X : Cx} {d : Addr} {ks : List (Str × Addr)}
theorem CanK.dict (C : CanK X.K X.prog X.w d ks) {pins : List (Addr × Obj)} {σ : St} {H : Hp} {s : Shared} (I : Inv X pins σ H s) : s.heap.DictOf (strKind X.prog X.w) d (ks.map fun p => (p.1, Value.ref p.2)) := by
 obtain ⟨o, hk, hd⟩ := C.ok
 exact Heap.dictOf_iff.mpr ⟨o, I.kIn d o hk, hd⟩
theorem h_globA {x : Str} {a : Addr} {pos : Pos} (hm : X.mg x = some (.ref a)) (hg : Gl X x := by rfl) (hd : (x == ("__debug__" : Str)) = false := by decide) : HE X (.Name x pos) (tK (.adr a)) := h_const (v := .ref a) (pe_glob hg hm rfl hd) fun _ _ => rep_adr
noncomputable def rInD (d : Addr) (ks : List (Str × Addr)) (f : Bool → Bool) : R3 := fun x y M Q => match x, y with
 | .str z, .adr a => a = d ∧ Q (.bl (f (canAt ks z).isSome)) M
 | _, _ => False
theorem op3_canNotIn (C : CanK X.K X.prog X.w d ks) : OpR3 X (compareOp .NotIn) (rInD d ks not) := by
 intro pins s σ H x y v u Q2 I rx ry q
 obtain ⟨a, b, M, Q, r1, r2, hh, q, en⟩ := q
 unfold rInD at q
 split at q
 · rename_i z p
   obtain ⟨rfl, q⟩ := q
   obtain rfl := inv_str r1
   obtain rfl := inv_adr r2
   obtain ⟨t, rfl⟩ := rx
   cases ry
   refine wpAny_notIn_of (strKind_is _ _ z t) C.ns (C.dict I).mapOf ⟨.bl _, H, I.tok _, rfl, en _ _ M H Kp.refl hh rep_bl ?_⟩
   rw [canAt_val, Option.isSome_map]
   exact q
 · exact q.elim
end
theorem arm_call_sub (o i : Expr) (p : Pos) (args : List Expr) (kws : List Keyword) (pos : Pos) (env : Env) : eval (.Call (.Subscript o i p) args kws pos) env = (do
   callWith pos (← eval (.Subscript o i p) env) [] (backTo pos (starEach args env)) (backToKw pos (keywordEach kws env))) := rfl
structure DfA (P : Program) (w : World) (K : PySem.W.Frag) (mg : Str → Option Value) (base : Heap) (n : Nat) (f : Addr) (ps : List Str) (sp : Sp3) : Prop where
 out : ∃ fd, FnOk P w K mg base CX0 n f fd ps (dSp K sp) ∧ PySem.W.keepIn K (.ref f) = true ∧ Binds K fd ps []
theorem Df.fnAt {P : Program} {w : World} {K : PySem.W.Frag} {mg : Str → Option Value} {base : Heap} {n : Nat} {x : Str} {f : Addr} {ps : List Str} {sp : Sp3} (D : Df P w K mg base n x ps sp) (h : mg x = some (.ref f)) : DfA P w K mg base n f ps sp := by
 obtain ⟨f', fd, F, hm, hk, hb⟩ := D.out
 rw [h] at hm
 cases hm
 exact ⟨fd, F, hk, hb⟩
noncomputable def tCanCall (ks : List (Str × Addr)) (fs : List (Addr × Sp3)) (ti : TE3) (ta : TA3) : TE3 := fun ρ M Q => ti ρ M fun x M1 => match x with
 | .str z => ∃ f, canAt ks z = some f ∧ ta ρ M1 fun ts M2 => ∃ sp, (f, sp) ∈ fs ∧ sp ts M2 Q
 | _ => False
theorem h_canCall {X : Cx} {d : Addr} {ks : List (Str × Addr)} {fs : List (Addr × Sp3)} {n : Nat} {x : Str} {ps : List Str} {i e : Expr} {es : List Expr} {ti : TE3} {ta : TA3} {p1 p2 pos : Pos} (C : CanK X.K X.prog X.w d ks) (hm : X.mg x = some (.ref d)) (hK : ∀ q ∈ ks, PySem.W.keepIn X.K (.ref q.2) = true) (hF : ∀ q ∈ fs, DfA X.prog X.w X.K X.mg X.base n q.1 ps q.2) (hr : Room n X.A) (hi : HE X i ti) (ha : HA X (e :: es) ta)
   (hs : NoSl i := by intro _ _; rfl) (hg : Gl X x := by rfl) (hdb : (x == ("__debug__" : Str)) = false := by decide)
   (he : starEach (e :: es) X.env = (false, eval e X.env) :: starEach es X.env := by rfl) (hpl : (backTo pos (starEach es X.env)).any (·.1) = false := by rfl) :
   HE X (.Call (.Subscript (.Name x p1) i p2) (e :: es) [] pos) (tCanCall ks fs ti ta) := by
 intro ρ M Q h pins s σ H Q2 I b
 obtain ⟨hr', hh, en⟩ := b
 rw [arm_call_sub]
 have hn : PE X (.Name x p1) (tC (.ref d)) := pe_glob hg hm rfl hdb
 refine wpAny_bind (subD_of PySem.F.slot_dict_getitem.lookup hs (thn (hn pins s σ H (fun v H1 => v = .ref d ∧ H1 = H) I ⟨rfl, rfl⟩) fun u s1 ⟨x1, H1, I1, rx, e1, e2⟩ => ?_))
 subst e1 e2
 cases rx
 refine thn (hi ρ M _ h pins s1 σ H1 (fun v H2 => ∃ t M1, Kp X.K H1 H2 ∧ HR X.K H2 M1 ∧ Rep X.K H2 v t ∧ (match t with
   | .str z => ∃ f, canAt ks z = some f ∧ ta ρ M1 fun ts M2 => ∃ sp, (f, sp) ∈ fs ∧ sp ts M2 Q
   | _ => False)) I1 ⟨hr', hh, fun t v M1 H2 k1 h1 r1 q1 => ⟨t, M1, k1, h1, r1, q1⟩⟩) fun iv s2 ⟨y, H2, I2, ry, t, M1, k1, h1, rt, q1⟩ => ?_
 split at q1
 · rename_i z
   obtain ⟨f, hc, q1⟩ := q1
   obtain rfl := inv_str rt
   obtain ⟨tk, rfl⟩ := ry
   refine ⟨(C.dict I2).typeIs, wpAny_getItem_of (strKind_is _ _ z tk) (C.dict I2).mapOf (v := .ref f) (by rw [canAt_val, hc]; rfl) ?_⟩
   have I3 := I2.tok (s2.toks + 1)
   have hk : PySem.W.keepIn X.K (.ref f) = true := by
     unfold canAt at hc
     obtain ⟨q, hq, rfl⟩ := Option.map_eq_some_iff.mp hc
     exact hK q (List.mem_of_find?_eq_some hq)
   refine PySem.W.callWith_K (h₀ := X.base) I3.ok.mod.kin hk (thn (ha ρ M1 _ q1 pos pins _ σ H2 (fun vs H3 => ∃ ts M2, Kp X.K H2 H3 ∧ HR X.K H3 M2 ∧ Reps X.K H3 vs ts ∧ ∃ sp, (f, sp) ∈ fs ∧ sp ts M2 Q) I3 ⟨hr'.kp k1, h1, fun ts vs M2 H3 k2 h2 r2 q2 => ⟨ts, M2, k2, h2, r2, q2⟩⟩) fun us s3 ⟨vs, H3, I4, r, ts, M2, k2, h2, r2, sp, hsp, q2⟩ => ⟨I4.kIn, ?_⟩) he hpl
   obtain ⟨fd, F, _, hb⟩ := (hF (f, sp) hsp).out
   exact run_fn F hr hb .nil pass0 I4 r ⟨ts, M2, Q, by rw [List.append_nil]; exact r2, h2, q2, en.kp (k1.trans k2)⟩
 · exact q1.elim
section
variable {X : Cx} {d : Addr} {ks : List (Str × Addr)}
end
theorem pairs_of {P : Program} {w : World} : ∀ (L : List (Str × Tok × Addr)), PySem.Pairs (PySem.strKind P w) (L.map fun q => (⟨PyData.keyHash w.params q.1, .str q.1 q.2.1, .ref q.2.2⟩ : DictEntry)) (L.map fun q => (q.1, Value.ref q.2.2))
 | [] => .nil
 | q :: L => .cons (by show (q.1 == q.1) = true; exact beq_self_eq_true _) rfl (pairs_of L)
theorem canK_of {K : PySem.W.Frag} {P : Program} {w : World} {d : Addr} {ep : Nat} (L : List (Str × Tok × Addr)) (l : K.lookup d = some ⟨.type "dict", none, .dict (L.map fun q => (⟨PyData.keyHash w.params q.1, .str q.1 q.2.1, .ref q.2.2⟩ : DictEntry)).toArray ep, #[]⟩) (nd : (L.map fun q => q.1).Nodup) (ns : (d == sysModules) = false) : CanK K P w d (L.map fun q => (q.1, q.2.2)) := by
 refine ⟨⟨_, l, _, ep, ⟨rfl, rfl, rfl⟩, rfl, fun e he => ?_, ?_, ?_⟩, ns⟩
 · rw [List.mem_toArray] at he
   obtain ⟨q, _, rfl⟩ := List.mem_map.mp he
   exact ⟨q.1, by show (q.1 == q.1) = true; exact beq_self_eq_true _, rfl⟩
 · rw [List.map_map]
   exact pairs_of L
 · rw [List.map_map, List.map_map]
   exact nd
end L2
namespace L2
open PySem PySem.Spec PyProof.Rows
noncomputable def flT : T → Bool
 | .non => true
 | .bl _ => true
 | .int _ => true
 | .str _ => true
 | _ => false
noncomputable def toV : T → V
 | .bl b => .bl b
 | .int i => .int i
 | .str z => .str z
 | _ => .non
theorem rep_fl {K : PySem.W.Frag} {H : Hp} {v : V} {t : T} (f : flT t = true) (r : Rep K H v t) : v = toV t := by
 cases t with
 | non => exact inv_non r
 | bl b => exact inv_bl r
 | int i => exact inv_int r
 | str z => exact inv_str r
 | _ => cases f
theorem reps_fl {K : PySem.W.Frag} {H : Hp} : ∀ {vs : List V} {ts : List T}, ts.all flT = true → Reps K H vs ts → vs = ts.map toV
 | vs, [], _, r => by unfold Reps at r; exact r
 | vs, t :: ts, f, r => by
   unfold Reps at r
   obtain ⟨v, w, rfl, r1, r2⟩ := r
   rw [List.all_cons, Bool.and_eq_true] at f
   rw [rep_fl f.1 r1, reps_fl f.2 r2]
   rfl
theorem toV_flat {t : T} (f : flT t = true) : flatV (toV t) = true := by
 cases t <;> first | rfl | cases f
theorem toV_flats : ∀ {ts : List T}, ts.all flT = true → (ts.map toV).all flatV = true
 | [], _ => rfl
 | t :: ts, f => by
   rw [List.all_cons, Bool.and_eq_true] at f
   rw [List.map_cons, List.all_cons, toV_flat f.1, toV_flats f.2]
   rfl
theorem toV_eq {x y : T} (f : flT x = true) (g : flT y = true) : eqV (toV x) (toV y) = eqT x y := by
 cases x with
 | tup _ => cases f
 | adr _ => cases f
 | rd _ => cases f
 | dic _ _ => cases f
 | _ =>
   cases y with
   | tup _ => cases g
   | adr _ => cases g
   | rd _ => cases g
   | dic _ _ => cases g
   | _ => rfl
noncomputable def inT (x : T) (ts : List T) : Bool := ts.any fun y => eqT y x
theorem toV_in {x : T} (f : flT x = true) : ∀ {ts : List T}, ts.all flT = true → inV (toV x) (ts.map toV) = inT x ts
 | [], _ => rfl
 | t :: ts, g => by
   rw [List.all_cons, Bool.and_eq_true] at g
   have := toV_in f g.2
   unfold inV inT at this ⊢
   rw [List.map_cons, List.any_cons, List.any_cons, toV_eq g.1 f, this]
noncomputable def rIn3 (neg : Bool) : R3 := fun x y M Q => flT x = true ∧ match y with
 | .tup ts => ts.all flT = true ∧ Q (.bl (if neg then !inT x ts else inT x ts)) M
 | .adr p => match M p with
   | some (.lst ts) => ts.all flT = true ∧ Q (.bl (if neg then !inT x ts else inT x ts)) M
   | _ => False
 | _ => False
section
variable {X : Cx}
theorem op3_inG {neg : Bool} {f : Value → Value → Sem Value} (ho : OpR X f (rIn X.K neg)) : OpR3 X f (rIn3 neg) := by
 intro pins s σ H x y v u Q2 I rx ry q
 obtain ⟨a, b, M, Q, r1, r2, hh, q, en⟩ := q
 unfold rIn3 at q
 obtain ⟨fa, q⟩ := q
 obtain rfl := rep_fl fa r1
 split at q
 · obtain ⟨p, xs, rfl, h1, h2⟩ := inv_tup r2
   obtain rfl := reps_fl q.1 h2
   refine ho pins s σ H _ _ v u Q2 I rx ry ⟨p, _, rfl, .inr h1, toV_flat fa, toV_flats q.1, ?_⟩
   rw [toV_in fa q.1]
   exact en _ _ M H Kp.refl hh rep_bl q.2
 · rename_i p
   split at q
   · rename_i ts e
     obtain ⟨xs, h1, h2⟩ := hh _ _ e
     obtain rfl := inv_adr r2
     obtain rfl := reps_fl q.1 h2
     refine ho pins s σ H _ _ v u Q2 I rx ry ⟨p, _, rfl, (.inl (.inl (.inl h1))), toV_flat fa, toV_flats q.1, ?_⟩
     rw [toV_in fa q.1]
     exact en _ _ M H Kp.refl hh rep_bl q.2
   · exact q.elim
 · exact q.elim
theorem op3_notin : OpR3 X (compareOp .NotIn) (rIn3 true) := op3_inG op_notIn_seq
end
end L2
namespace L2
open PySem PySem.Spec PyProof.Rows
section
variable {X : Cx} {Ha : Hp} {body : List Stmt} {pos : Pos}
end
end L2
namespace L2
open PySem PySem.Spec PyProof.Rows
open AutoSeq1 (wpAny_loadPart')
theorem meets_enumT (t : Addr) (items : Array Value) (n : Nat) (dct : Option Addr) (sl : Array (Option Value)) :
   Meets (Builtin.«enumerate.__new__» ⟨[.type "enumerate", .ref t], []⟩) (fun _ R s => s.heap.get? t = some { cls := .type "tuple", dict := dct, data := .seq items n, slots := sl } ∧
     R (.ok (.ret (.ref (s.heap.push { cls := .type "tuple_iterator", data := .fields #[.ref t, .int 0 0] }).objs.size)))
       { s with heap := (s.heap.push { cls := .type "tuple_iterator", data := .fields #[.ref t, .int 0 0] }).push { cls := .type "enumerate", data := .fields #[.none, .bool false, .ref s.heap.objs.size, rawInt 0, .none, .none] } }) :=
 .of_wp fun prog w A R s h => by
   obtain ⟨hp, g, d, tk, os⟩ := s; obtain ⟨hl, h⟩ := h
   have hsub := sub_enumerate
   have hL : Heap.IsTuple (Shared.heap ⟨hp, g, d, tk, os⟩) t items := ⟨_, hl, rfl, n, rfl⟩
   wp_walk using wpAny_loadPart' hl
   refine wpAny_stack_any fun st => wpAny_pure ?_
   split
   · rename_i c _ _ _ _ _
     cases (c == Value.type "enumerate")
     · wp_walk using wpAny_loadPart' hl, wpAny_pyIter_tuple hL
       exact ⟨_, rfl, h⟩
     · wp_walk using wpAny_loadPart' hl, wpAny_pyIter_tuple hL
       exact ⟨_, rfl, h⟩
   · wp_walk using wpAny_loadPart' hl, wpAny_pyIter_tuple hL
     exact ⟨_, rfl, h⟩
section
variable {prog : Program} {w : World} {A : Around} {E : Value → Shared → Prop} {s : Shared}
theorem call_enumT {l : Addr} {items : Array Value} {Q : Value → Shared → Prop} (hL : s.heap.IsTuple l items)
   (h : ∀ h', IsEnum h' (s.heap.objs.size + 1) s.heap.objs.size 0 .none → h'.IsTupleIter s.heap.objs.size l 0 → h'.objs.size = s.heap.objs.size + 2 →
     (∀ b o, s.heap.get? b = some o → h'.get? b = some o) → Q (.ref (s.heap.objs.size + 1)) { s with heap := h' }) :
   wpAny (model prog w) A (call (.type "enumerate") [.ref l]) Q E s := by
 obtain ⟨⟨c, dct, dt, sl⟩, hl, hc, n, hd⟩ := hL
 replace hc : c = .type "tuple" := hc
 replace hd : dt = .seq items n := hd
 subst hc hd
 refine callType_new F.called_enumerate (by decide) (F.typeCall_enumerate_1 _) (F.newCall_enumerate_1 _) (fun obj => F.args_object_init_2 obj _) F.entry_enumerate_new
   (meets_enumT l items n dct sl) ⟨hl, ?_⟩
 have hz : (s.heap.push { cls := .type "tuple_iterator", data := .fields #[.ref l, .int 0 0] }).objs.size = s.heap.objs.size + 1 := Heap.size_push ..
 show _ ∧ _
 rw [hz]
 have he : IsEnum ((s.heap.push { cls := .type "tuple_iterator", data := .fields #[.ref l, .int 0 0] }).push
     { cls := .type "enumerate", data := .fields #[.none, .bool false, .ref s.heap.objs.size, rawInt 0, .none, .none] }) (s.heap.objs.size + 1) s.heap.objs.size 0 .none := by
   have := Heap.get?_push_size (s.heap.push { cls := .type "tuple_iterator", data := .fields #[.ref l, .int 0 0] })
     (o := { cls := .type "enumerate", data := .fields #[.none, .bool false, .ref s.heap.objs.size, rawInt 0, .none, .none] }) rfl
   rw [hz] at this; exact this
 refine ⟨⟨_, he, rfl⟩, h _ he ⟨_, Heap.get?_push_of_some _ (Heap.get?_push_size _ rfl), rfl, rfl⟩ (by rw [Heap.size_push, hz]) fun b o x => Heap.get?_push_of_some _ (Heap.get?_push_of_some _ x)⟩
theorem nextOf_tup_item {it l : Addr} {i : Nat} {items} {x : Value} {Q : Value → Shared → Prop} (hit : s.heap.IsTupleIter it l i)
   (hl : s.heap.IsTuple l items) (hx : items[i]? = some x)
   (hQ : ∀ h', h'.IsTupleIter it l (i + 1) → Heap.SameBut it s.heap h' → Q x { s with heap := h' }) :
   wpAny (model prog w) A (Builtin.SmallTypes.nextOf (.ref it)) Q E s := by
 obtain ⟨o, ho, hc, hd⟩ := id hit
 obtain ⟨ol, hol, _, nl, hdl⟩ := hl
 unfold Builtin.SmallTypes.nextOf
 refine wpAny_bind (wpAny_callSpecial?_slot (name := Str.ofString "__next__") hit.typeIs F.slot_tuple_iterator_next
   (wpAny_call_entry F.slot_tuple_iterator_next hit.typeIs F.entry_tuple_iterator_next ?_ (F.args_tuple_iterator_next_1 _)))
 show wpAny _ _ (field (.ref it) 0 >>= _) _ _ s
 refine wpAny_bind (wpAny_field ho hd (x := .ref l) rfl ?_)
 show wpAny _ _ (if (Value.ref l == Value.none) = true then _ else _) _ _ s
 rw [if_neg (show ¬ ((Value.ref l == Value.none) = true) from Bool.false_ne_true)]
 show wpAny _ _ (field (.ref it) 1 >>= _) _ _ s
 refine wpAny_bind (wpAny_field ho hd (x := .int i 0) rfl ?_)
 show wpAny _ _ (seqItems? (.ref l) >>= _) _ _ s
 refine wpAny_bind (wpAny_seqItems hol hdl ?_)
 simp only [Int.toNat_natCast, hx]
 refine wpAny_bind (wpAny_setField ho hd (by simp) (wpAny_pure ⟨x, rfl, wpAny_pure (hQ _ ?_ (Heap.SameBut.update ..))⟩))
 exact ⟨_, Heap.get?_update_self _ ho (Obj.isFreed_of_fields (Obj.data_mapFields hd _)), (Obj.cls_mapFields ..).trans hc, by
   rw [Obj.data_mapFields hd]; simp [rawInt]⟩
theorem nextOf_tup_end {it l : Addr} {i : Nat} {items} {Q : Value → Shared → Prop} (hh : A.handled = none)
   (hit : s.heap.IsTupleIter it l i) (hl : s.heap.IsTuple l items) (hx : items[i]? = none)
   (hE : ∀ h' e, Heap.ExtBut it s.heap h' → (∃ o, h'.get? e = some o ∧ o.cls = .type "StopIteration") → E (.ref e) { s with heap := h' }) :
   wpAny (model prog w) A (Builtin.SmallTypes.nextOf (.ref it)) Q E s := by
 obtain ⟨o, ho, hc, hd⟩ := id hit
 obtain ⟨ol, hol, _, nl, hdl⟩ := hl
 unfold Builtin.SmallTypes.nextOf
 refine wpAny_bind (wpAny_callSpecial?_slot (name := Str.ofString "__next__") hit.typeIs F.slot_tuple_iterator_next
   (wpAny_call_entry F.slot_tuple_iterator_next hit.typeIs F.entry_tuple_iterator_next ?_ (F.args_tuple_iterator_next_1 _)))
 show wpAny _ _ (field (.ref it) 0 >>= _) _ _ s
 refine wpAny_bind (wpAny_field ho hd (x := .ref l) rfl ?_)
 show wpAny _ _ (if (Value.ref l == Value.none) = true then _ else _) _ _ s
 rw [if_neg (show ¬ ((Value.ref l == Value.none) = true) from Bool.false_ne_true)]
 show wpAny _ _ (field (.ref it) 1 >>= _) _ _ s
 refine wpAny_bind (wpAny_field ho hd (x := .int i 0) rfl ?_)
 show wpAny _ _ (seqItems? (.ref l) >>= _) _ _ s
 refine wpAny_bind (wpAny_seqItems hol hdl ?_)
 simp only [Int.toNat_natCast, hx]
 refine wpAny_bind (wpAny_rule (wpAny_bind (wpAny_setField ho hd (by simp) ?_)))
 show wpAny _ _ (newExc (.type "StopIteration") [] >>= _) _ _ _
 refine wpAny_bind ?_
 simp only [newExc, newTuple]
 refine wpAny_bind (wpAny_newObj_type ?_ (by size_fits))
 refine wpAny_bind (m := firstArgMember _ _) (wpAny_of_eq (a := Value.none) (by first | rfl | (simp only [firstArgMember]; rfl)) ?_)
 refine wpAny_newObj_type ?_ (by size_fits)
 simp only [raiseNew]
 refine wpAny_bind (wpAny_handled ?_)
 first | rw [show A.in1.handled = none from hh] | rw [hh]
 refine wpAny_bind (wpAny_pure (wpAny_throw ?_))
 exact hE _ _ (((Heap.SameBut.update ..).extBut.push _).push _) ⟨_, Heap.get?_push_size _ rfl, rfl⟩
theorem draws_tup (hh : A.handled = none) (it l : Addr) (hne : l ≠ it) (items : Array Value) :
   Draws prog w A it [it, l] items.size (fun i v => items[i]? = some v) (fun i h => h.IsTupleIter it l i ∧ h.IsTuple l items) where
 live := fun _ _ st => let ⟨o, ho, _⟩ := st.1; ⟨o, ho⟩
 frame := fun _ _ _ st hk => ⟨st.1.at fun o e => hk it (by simp) o e, st.2.at fun o e => hk l (by simp) o e⟩
 item := fun i s Q E hi st hQ => by
   refine nextOf_tup_item st.1 st.2 (x := items[i]) (by simp [hi]) fun h' hit' hs' => ?_
   exact hQ _ h' s.toks (by simp [hi]) ⟨hit', st.2.extBut hs'.extBut hne⟩ hs'
 done := fun s Q E st hE => nextOf_tup_end hh st.1 st.2 (by simp) hE
end
noncomputable def IttE (K : PySem.W.Frag) (a : Addr) (n : Nat) : It :=
 ⟨fun i H => i < n ∧ ∃ xs, SqT K H a xs ∧ xs.length = n, fun i H x H' => ∃ T y, x = .ref T ∧ H T = none ∧ H' = upd H T (.tup [.int i, y]) ∧ ∀ xs, SqT K H a xs → xs[i]? = some y, fun i H => i = n ∧ ∃ xs, SqT K H a xs ∧ xs.length = n⟩
theorem turn_enumT {P : Program} {w : World} {K : PySem.W.Frag} {es : List Expr} {x1} {tp : Pos} (a e it : Addr) (n : Nat) (hne : e ≠ it) (hai : a ≠ it) (hae : a ≠ e) : Turn P w K (.Tuple es x1 tp) (IttE K a n) [e, it] e (fun i h => (∃ old, IsEnum h e it (i : Int) old) ∧ Heap.IsTupleIter h it a i) where
 mem := by simp
 obj := fun i h st b hb => by
   obtain ⟨⟨old, he⟩, hit⟩ := st
   have z : b = e ∨ b = it := by simpa using hb
   rcases z with rfl | rfl
   · exact ⟨_, he, fun v z => by cases z⟩
   · obtain ⟨o, q, c, d⟩ := hit
     exact ⟨o, q, fun v z => by rw [d] at z; cases z⟩
 keep := fun i h h' st k => by
   obtain ⟨⟨old, he⟩, hit⟩ := st
   exact ⟨⟨old, k e (by simp) _ he⟩, hit.at fun o q => k it (by simp) o q⟩
 item := by
   intro X hP hw hK hc i pins s σ H E I hf st hg
   subst hP hw hK
   obtain ⟨⟨old, he⟩, hit⟩ := st
   obtain ⟨hi, xs, hq, hxn⟩ := hg
   subst hxn
   obtain ⟨its, rv, p, hz⟩ := I.tuple hq
   obtain ⟨x, hx⟩ : ∃ x, xs[i]? = some x := ⟨_, List.getElem?_eq_getElem hi⟩
   obtain ⟨u, hu, ru⟩ := rv.get hx
   have fe := hf e (by simp)
   have fi := hf it (by simp)
   have hpt : s.heap.IsTuple a its.toArray := p
   have hsz0 : i < its.toArray.size := by have := rv.length; simp; lia
   refine wpAny_pyNext_enum_itemD (draws_tup (A := X.A.in1) (show X.A.in1.handled = none from I.ok.hd hc) it a hai its.toArray) he ⟨hit, hpt⟩ hsz0 hne (by simp [hne, hae.symm]) fun x' h1 tk hx' ho hit1 hT hsz hk => ?_
   obtain rfl : u = x' := by
     have e1 : its.toArray[i]? = some u := by simpa using hu
     exact Option.some.inj (e1.symm.trans hx')
   refine ⟨_, rfl, wpAny_letOwnedTupleGo_enum ho fun h2 he2 hs2 => ?_⟩
   have neT : s.heap.objs.size ≠ e := Nat.ne_of_gt (Heap.lt_size he)
   have k2 : ∀ b o, b ≠ e → b ≠ it → s.heap.get? b = some o → h2.get? b = some o := fun b o h3 h4 q => (hs2.2 b h3).trans (hk b o h3 h4 q)
   have hT2 : h2.get? s.heap.objs.size = some { cls := .type "tuple", data := .seq #[.int i tk, u] } := (hs2.2 _ neT).trans hT
   have hn : H s.heap.objs.size = none := I.hok.fresh (Nat.le_refl _)
   have I2 : Inv X pins σ (upd H s.heap.objs.size (.tup [.int i, x])) { s with heap := h2, toks := tk + 1 } := I.turnNew fe fi k2 (Nat.le_refl _)
     ⟨by simp only [List.length_cons, List.length_nil]; rw [sizeLine_eq]; decide, [.int i tk, u], .cons ⟨_, rfl⟩ (.cons ru .nil), _, hT2, rfl, rfl, _, rfl⟩
   refine ⟨.ref s.heap.objs.size, _, I2, rfl, ⟨_, x, rfl, hn, rfl, fun ys hy => by rw [I.tuple_inj hy hq]; exact hx⟩, ⟨⟨_, he2⟩, hit1.1.at fun o q => (hs2.2 it hne.symm).trans q⟩, fun b hb => ?_⟩
   have z : b = e ∨ b = it := by simpa using hb
   have hb' : b < s.heap.objs.size := by
     rcases z with rfl | rfl
     · exact Heap.lt_size he
     · obtain ⟨o, q, _⟩ := hit
       exact Heap.lt_size q
   rw [upd_ne (Nat.ne_of_lt hb')]
   exact (hf b hb).1
 done := by
   intro X hP hw hK hc i pins s σ H E I hf st hg
   subst hP hw hK
   obtain ⟨⟨old, he⟩, hit⟩ := st
   obtain ⟨hi, xs, hq, hxn⟩ := hg
   subst hi
   obtain ⟨its, rv, p, hz⟩ := I.tuple hq
   have hl := rv.length
   obtain ⟨f0, f1, f2, f3, f4, f5⟩ := hf it (by simp)
   have hpt : s.heap.IsTuple a its.toArray := p
   have hn2 : i = its.toArray.size := by simp; lia
   rw [hn2] at hit
   exact wpAny_pyNext_enum_endD (draws_tup (A := X.A.in1) (show X.A.in1.handled = none from I.ok.hd hc) it a hai its.toArray) he ⟨hit, hpt⟩ fun h' eb => ⟨rfl, I.turned (t' := s.toks) (fun b o hb e => eb b o hb e) f0 f1 f3 f4 f5⟩
 self := fun A i s Q E st h => by
   obtain ⟨⟨old, he⟩, _⟩ := st
   exact wpAny_pyIter_enum he h
section
variable {X : Cx}
theorem itok_enumT {K : PySem.W.Frag} {H : Hp} {a : Addr} {xs : List V} {ts : List T} (h : SqT K H a xs) (r : Reps K H xs ts) : ItOk K H (IttE K a ts.length) ⟨enT ts, fun _ => True⟩ := by
 refine ⟨fun H' M' k hh _ => ⟨by show (enT ts).length = _; rw [enT_length], xs, k.tup _ _ h, r.length⟩, fun i x H' M' e k hh _ => ?_⟩
 obtain ⟨t, ht, rfl⟩ := enT_get e
 obtain ⟨v, e1, r1⟩ := r.get ht
 refine ⟨⟨(List.getElem?_eq_some_iff.mp ht).1, xs, k.tup _ _ h, r.length⟩, fun v' H'' y => ?_⟩
 obtain ⟨p, y, rfl, hn, rfl, hy⟩ := y
 have e2 := hy xs (k.tup _ _ h)
 rw [e1] at e2
 cases e2
 refine ⟨Kp.new hn, hh.keep hn, rep_tup (SqT.of upd_same) ?_⟩
 unfold Reps
 refine ⟨_, _, rfl, rep_int, ?_⟩
 unfold Reps
 refine ⟨_, _, rfl, Rep.kp (Kp.new hn) _ _ (Rep.kp k _ _ r1), ?_⟩
 unfold Reps
 rfl
noncomputable def iEnumT (tl : TE3) : TI3 := fun ρ M R => tl ρ M fun x M1 => match x with
 | .tup ts => R ⟨enT ts, fun _ => True⟩ M1
 | _ => False
theorem i_enumT {es : List Expr} {x1} {tp pos : Pos} {l : Expr} {tl : TE3} {p : Pos} (hm : X.mg "enumerate" = none) (hl : HE X l tl) (hg : Gl X "enumerate" := by rfl) (hs : starEach [l] X.env = [(false, eval l X.env)] := by rfl) : HI X (.Tuple es x1 tp) (.Call (.Name "enumerate" p) [l] [] pos) (iEnumT tl) := by
 intro ρ M R h pins s σ H R2 I b
 obtain ⟨hr, hh, en⟩ := b
 have pa := pa_cons (X := X) (hl.d (ρ := ρ)) pa_nil hs
 refine Call_ (ld_blt I hg hm PyProof.Rows.boot_enumerate (PyProof.Rows.callWith_type1 (thn (pa pos pins s σ H (fun vs H1 => ∃ v t M1, vs = [v] ∧ Kp X.K H H1 ∧ HR X.K H1 M1 ∧ Rep X.K H1 v t ∧ (match t with
   | .tup ts => R ⟨enT ts, fun _ => True⟩ M1
   | _ => False)) I ⟨M, _, h, hr, hh, fun t v M1 H1 k1 h1 r1 q1 => ⟨v, t, M1, rfl, k1, h1, r1, q1⟩⟩) fun us s1 ⟨vs, H1, I1, r1, v, t, M1, e, k1, h1, rt, q1⟩ => ?_) hs rfl))
 subst e
 cases r1 with
 | cons r rr =>
   cases rr
   split at q1
   · rename_i ts
     obtain ⟨a, xs, rfl, g1, g2⟩ := inv_tup rt
     cases r
     obtain ⟨its, rv, p, hz⟩ := I1.tuple g1
     have hpt : s1.heap.IsTuple a its.toArray := p
     have ha : a < s1.heap.objs.size := by obtain ⟨o, ho, _⟩ := hpt; exact Heap.lt_size ho
     refine call_enumT hpt fun h' he hit hsz hk => ?_
     refine wpAny_pyIter_enum (s := { s1 with heap := h' }) he ?_
     refine ⟨s1.heap.objs.size + 1, [s1.heap.objs.size + 1, s1.heap.objs.size], _, _, H1, rfl, I1.kept (t' := s1.toks) hk, turn_enumT a _ _ ts.length (Nat.succ_ne_self _) (Nat.ne_of_lt ha) (Nat.ne_of_lt (Nat.lt_succ_of_lt ha)), ⟨⟨_, he⟩, hit⟩, fun b hb => ?_, en _ _ M1 H1 k1 h1 (itok_enumT g1 g2) q1⟩
     have z : b = s1.heap.objs.size + 1 ∨ b = s1.heap.objs.size := by simpa using hb
     rcases z with rfl | rfl
     · exact I1.fpOk (Nat.le_succ _) (I1.hok.fresh (Nat.le_succ _))
     · exact I1.fpOk (Nat.le_refl _) (I1.hok.fresh (Nat.le_refl _))
   · exact q1.elim
end
theorem starEach_tup {es rest : List Expr} {x1} {pos : Pos} {env : Env} : starEach (.Tuple es x1 pos :: rest) env = (false, eval (.Tuple es x1 pos) env) :: starEach rest env := rfl
theorem a_consT {X : Cx} {es1 es : List Expr} {x1} {pos : Pos} {ta : TE3} {t : TA3} (ha : HE X (.Tuple es1 x1 pos) ta) (hr : HA X es t) : HA X (.Tuple es1 x1 pos :: es) (tCons3 ta t) := a_cons ha hr (hs := starEach_tup)
end L2
namespace L2
open PySem PySem.Spec PyProof.Rows
section
variable {prog : Program} {w : World} {A : Around} {E : Value → Shared → Prop} {s : Shared}
theorem collect_tup {l : Addr} {vs : List Value} {Q : List Value → Shared → Prop} (hl : s.heap.IsTuple l vs.toArray)
   (h : Q vs { s with heap := (s.heap.push (seqObj "list" #[] 0)).update s.heap.objs.size (Obj.mapSeq (· ++ vs.toArray)) }) (hsz : vs.length ≤ sizeLine) :
   wpAny (model prog w) A (collect (.ref l)) Q E s := by
 obtain ⟨o, ho, hc, n, hd⟩ := id hl
 unfold collect
 refine wpAny_bind (wpAny_runValue (codeAny_builtin entry_proto_collect' ?_))
 show wpAny _ _ (do again (.builtin "list.__iadd__" ⟨[← newList [], .ref l], []⟩)) _ _ s
 refine wpAny_bind (wpAny_newList (wpAny_pure ⟨Code.quiet_builtin _ (by decide +kernel), codeAny_builtin entry_list_iadd' ?_⟩))
 show wpAny _ _ (Builtin.List.listExtendWith (.ref s.heap.objs.size) (.ref l) (.ref s.heap.objs.size)) _ _ { s with heap := s.heap.push (seqObj "list" #[] 0) }
 unfold Builtin.List.listExtendWith
 have ho' : (s.heap.push (seqObj "list" #[] 0)).get? l = some o := Heap.get?_push_of_some _ ho
 refine wpAny_bind (wpAny_typeOf (T := "tuple") ⟨o, ho', hc⟩ ?_)
 have ht : (Value.type "tuple" == Value.type "tuple") = true := by rfl
 rw [if_pos (by rw [ht]; simp)]
 refine wpAny_bind (listItems_at ho' hd ?_)
 refine wpAny_bind (listItems_at (xs := #[]) (n := 0) (Heap.get?_push_size _ rfl) rfl ?_)
 rw [if_neg (by simp)]
 refine wpAny_bind (listUpdate_at (xs := #[]) (n := 0) (Heap.get?_push_size _ rfl) rfl ?_ (Nat.zero_le _) (by show (#[] ++ vs.toArray).size ≤ sizeLine + 1; simp only [Array.size_append, List.size_toArray, List.length_nil]; lia))
 refine wpAny_pure ?_
 show wpAny (model prog w) A (do
     let o ← load s.heap.objs.size
     match o.data with
     | .seq xs _ => pure xs.toList
     | _ => unsupported "internal:collect") Q E { s with heap := (s.heap.push (seqObj "list" #[] 0)).update s.heap.objs.size (Obj.mapSeq (· ++ vs.toArray)) }
 refine wpAny_bind (wpAny_load (get?_update_seq (Heap.get?_push_size _ rfl) _) ?_)
 show wpAny _ _ (pure ((#[] : Array Value) ++ vs.toArray).toList) Q E _
 rw [show ((#[] : Array Value) ++ vs.toArray).toList = vs by simp]
 exact wpAny_pure h
theorem sorted_of {l : Addr} {vs : List Value} {ns : List Int} {Q : Value → Shared → Prop} (hI : IntsAre vs ns) (h64 : vs.length < 64)
   (hcol : ∀ (Q' : List Value → Shared → Prop), Q' vs { s with heap := (s.heap.push (seqObj "list" #[] 0)).update s.heap.objs.size (Obj.mapSeq (· ++ vs.toArray)) } → wpAny (model prog w) A.in1 (collect (.ref l)) Q' E s)
   (h : ∀ (out : Array Value) (ns' : List Int), IntsAre out.toList ns' → ns'.Perm ns → ns'.Pairwise (· ≤ ·) → Q (.ref (s.heap.objs.size + 1)) { s with heap := sortedAll s.heap vs out }) :
   wpAny (model prog w) A (call (.builtin "sorted") [.ref l]) Q E s := by
 refine Calls.call_function_entry kind_sorted plain_sorted entry_sorted (args_sorted1 _) ?_
 unfold Builtin.«sorted»
 refine wpAny_bind (m := checkCount "sorted" 1 1 _) (wpAny_pure ?_)
 refine wpAny_bind (hcol _ ?_)
 refine wpAny_bind (wpAny_newList ?_)
 have hsz : ((s.heap.push (seqObj "list" #[] 0)).update s.heap.objs.size (Obj.mapSeq (· ++ vs.toArray))).objs.size = s.heap.objs.size + 1 := by
   rw [Heap.size_update, size_push']
 have hoL : (((s.heap.push (seqObj "list" #[] 0)).update s.heap.objs.size (Obj.mapSeq (· ++ vs.toArray))).push (seqObj "list" vs.toArray 0)).get? (s.heap.objs.size + 1) = some (seqObj "list" vs.toArray 0) := by
   rw [← hsz]; exact Heap.get?_push_size _ rfl
 show wpAny _ _ _ _ _ { s with heap := ((s.heap.push (seqObj "list" #[] 0)).update s.heap.objs.size (Obj.mapSeq (· ++ vs.toArray))).push (seqObj "list" vs.toArray 0) }
 rw [hsz]
 refine wpAny_bind (wpAny_holding (wpAny_call_entry slot_list_sort ⟨_, hoL, rfl⟩ entry_list_sort (list_sort_tree hoL hI h64 fun out ns' a1 a2 a3 => ⟨_, rfl, ?_⟩) (args_list_sort _)))
 exact wpAny_pure ⟨_, rfl, h out ns' a1 a2 a3⟩
end
section
variable {X : Cx}
theorem call_sorted_of : CallR X (.builtin "sorted") (fun xs H Q => ∃ p ns, xs = [.ref p] ∧ (SqL X.K H p (ns.map V.int) ∨ SqT X.K H p (ns.map V.int)) ∧ ns.length < 64 ∧ ∀ ms : List Int, ms.Perm ns → ms.Pairwise (· ≤ ·) → ∀ l, H l = none → Q (.ref l) (upd H l (.lst (ms.map V.int)))) := by
 intro pins s σ H xs us Q I r h
 obtain ⟨p, ns, rfl, hq, h64, q⟩ := h
 obtain ⟨u, rfl, rx⟩ := vals1 r
 cases rx
 have fin : ∀ (its : List Value), its.length = ns.length → ∀ (out : Array Value) (ns' : List Int), IntsAre out.toList ns' → ns'.Perm ns → ns'.Pairwise (· ≤ ·) → EP X pins σ Q (.ref (s.heap.objs.size + 1)) { s with heap := sortedAll s.heap its out } := by
   intro its hl out ns' h1 h2 h3
   obtain ⟨e, he⟩ := sortedAll_at s.heap its out
   have hv := vals_ints h1
   have hn : ns'.length ≤ sizeLine := by rw [h2.length_eq, sizeLine_eq]; lia
   refine ⟨.ref (s.heap.objs.size + 1), _, I.laid (t' := s.toks) (fun b o hb => sortedAll_old hb) (Nat.le_succ _) (show ObjOk X.prog X.w _ (sortedAll s.heap its out) _ (.lst (ns'.map V.int)) from ⟨by rw [List.length_map]; exact hn, out.toList, e, hv, by rw [Array.toArray_toList]; exact he⟩), rfl, q ns' h2 h3 _ (I.hok.fresh (Nat.le_succ _))⟩
 rcases hq with hq | hq
 · obtain ⟨its, r', pl, hz⟩ := I.list hq
   have hlen : its.length = ns.length := by have := r'.length; rw [List.length_map] at this; lia
   have hl := pl.isList
   exact sorted_of (vs := its) (intsAre_of r') (by lia) (fun Q' q' => collect_list (by simpa using hl) q' (by rw [sizeLine_eq]; lia)) (fin its hlen)
 · obtain ⟨its, r', pl, hz⟩ := I.tuple hq
   have hlen : its.length = ns.length := by have := r'.length; rw [List.length_map] at this; lia
   have hl : s.heap.IsTuple p its.toArray := pl
   exact sorted_of (vs := its) (intsAre_of r') (by lia) (fun Q' q' => collect_tup hl q' (by rw [sizeLine_eq]; lia)) (fin its hlen)
noncomputable def rSorted3 : List T → MH → VK3 → Prop := fun xs M Q => match xs with
 | [.tup ts] => ∃ ns : List Int, ts = ns.map .int ∧ ns.length < 64 ∧ ∀ ms : List Int, ms.Perm ns → ms.Pairwise (· ≤ ·) → ∀ r, M r = none → Q (.adr r) (updM M r (.lst (ms.map .int)))
 | [.adr p] => (match M p with | some (.lst ts) => ∃ ns : List Int, ts = ns.map .int ∧ ns.length < 64 ∧ ∀ ms : List Int, ms.Perm ns → ms.Pairwise (· ≤ ·) → ∀ r, M r = none → Q (.adr r) (updM M r (.lst (ms.map .int))) | _ => False)
 | _ => False
theorem reps_ints {K : PySem.W.Frag} {H : Hp} : ∀ {ns : List Int} {vs : List V}, Reps K H vs (ns.map .int) → vs = ns.map V.int
 | [], _, r => by unfold Reps at r; exact r
 | n :: ns, _, r => by
   rw [List.map_cons] at r
   unfold Reps at r
   obtain ⟨v, w, rfl, r1, r2⟩ := r
   obtain rfl := inv_int r1
   rw [reps_ints r2]
   rfl
theorem ints_reps {K : PySem.W.Frag} {H : Hp} : ∀ ns : List Int, Reps K H (ns.map V.int) (ns.map .int)
 | [] => by rw [List.map_nil, List.map_nil]; unfold Reps; rfl
 | n :: ns => by
   rw [List.map_cons, List.map_cons]
   unfold Reps
   exact ⟨_, _, rfl, rep_int, ints_reps ns⟩
theorem call3_sorted : CallR3 X (.builtin "sorted") rSorted3 := by
 intro pins s σ H vs us Q2 I r h
 obtain ⟨xs, M, Q, rr, hh, q, en⟩ := h
 unfold rSorted3 at q
 split at q
 · obtain ⟨v, rfl, r1⟩ := reps1 rr
   obtain ⟨p, ys, rfl, g1, g2⟩ := inv_tup r1
   obtain ⟨ns, rfl, h64, q⟩ := q
   obtain rfl := reps_ints g2
   exact call_sorted_of pins s σ H _ us Q2 I r ⟨p, ns, rfl, .inr g1, h64, fun ms h1 h2 l hl => en _ _ _ _ (Kp.new hl) (hh.newL hl (ints_reps ms)) rep_adr (q ms h1 h2 l (hh.free hl))⟩
 · obtain ⟨v, rfl, r1⟩ := reps1 rr
   obtain rfl := inv_adr r1
   split at q
   · rename_i ts e0
     obtain ⟨ns, rfl, h64, q⟩ := q
     obtain ⟨ys, g1, g2⟩ := hh _ _ e0
     obtain rfl := reps_ints g2
     exact call_sorted_of pins s σ H _ us Q2 I r ⟨_, ns, rfl, .inl (SqL.of g1), h64, fun ms h1 h2 l hl => en _ _ _ _ (Kp.new hl) (hh.newL hl (ints_reps ms)) rep_adr (q ms h1 h2 l (hh.free hl))⟩
   · exact q.elim
 · exact q.elim
end
theorem len_1 {α : Type} {us : List α} {P : List α → Prop} (hl : us.length = 1) (h : ∀ a : α, P [a]) : P us := by
 obtain ⟨a, rfl⟩ := List.length_eq_one_iff.mp hl
 exact h a
theorem len_2 {α : Type} {us : List α} {P : List α → Prop} (hl : us.length = 2) (h : ∀ a b : α, P [a, b]) : P us := by
 obtain ⟨a, r, rfl⟩ := List.exists_cons_of_length_eq_add_one hl
 exact len_1 (P := fun r => P (a :: r)) (Nat.succ.inj hl) (h a)
theorem len_3 {α : Type} {us : List α} {P : List α → Prop} (hl : us.length = 3) (h : ∀ a b c : α, P [a, b, c]) : P us := by
 obtain ⟨a, r, rfl⟩ := List.exists_cons_of_length_eq_add_one hl
 exact len_2 (P := fun r => P (a :: r)) (Nat.succ.inj hl) (h a)
theorem len_4 {α : Type} {us : List α} {P : List α → Prop} (hl : us.length = 4) (h : ∀ a b c d : α, P [a, b, c, d]) : P us := by
 obtain ⟨a, r, rfl⟩ := List.exists_cons_of_length_eq_add_one hl
 exact len_3 (P := fun r => P (a :: r)) (Nat.succ.inj hl) (h a)
end L2
namespace L2
open PySem PySem.Spec PyProof.Rows
section
variable {X : Cx}
end
end L2
namespace L2
open PySem PySem.Spec PyProof.Rows
section
variable {X : Cx}
theorem vals_intsA : ∀ {ns : List Int} {its : List Value}, Vals (ns.map V.int) its → IntsAre its ns
 | [], _, h => by cases h; exact .nil
 | n :: ns, _, h => by
   cases h with
   | cons r h =>
     obtain ⟨t, rfl⟩ := r
     exact .cons _ _ (vals_intsA h)
theorem call_sum_ints (hc : X.calm = true) : CallR X (.builtin "sum") (fun xs H Q => ∃ (p : Addr) (ns : List Int), xs = [.ref p] ∧ SqL X.K H p (ns.map V.int) ∧ Q (.int ns.sum) H) := by
 intro pins s σ H xs us Q I r h
 obtain ⟨p, ns, rfl, hq, q⟩ := h
 obtain ⟨u, rfl, rx⟩ := vals1 r
 cases rx
 obtain ⟨its, r', pl, hz⟩ := I.list hq
 have hi := vals_intsA r'
 obtain ⟨ys, e⟩ := hi.allInts.items
 have hl := pl.isList
 rw [e] at hl
 refine sum_intListG (I.ok.hd hc) hl fun h' tk t' hk => ?_
 have e2 : preSum (numAt ys) ys.size = ns.sum := by
   rw [preSum_eq, List.take_of_length_le (by simp), ← nums_intItems, ← e]
   show (numsOf its).sum = _
   rw [hi.numsOf]
 rw [e2]
 have I1 : Inv X pins σ H { s with heap := h', toks := tk } := I.kept hk
 exact ⟨.int _, H, I1, ⟨_, rfl⟩, q⟩
noncomputable def rSum3 : List T → MH → VK3 → Prop := fun xs M Q => match xs with
 | [.adr p] => (match M p with | some (.lst ts) => (match intsT ts with | some ns => Q (.int ns.sum) M | none => False) | _ => False)
 | _ => False
theorem call3_sum (hc : X.calm = true) : CallR3 X (.builtin "sum") rSum3 := by
 intro pins s σ H vs us Q2 I r h
 obtain ⟨xs, M, Q, rr, hh, q, en⟩ := h
 unfold rSum3 at q
 split at q
 · obtain ⟨v, rfl, r1⟩ := reps1 rr
   obtain rfl := inv_adr r1
   split at q
   · rename_i ts e0
     obtain ⟨ys, g1, g2⟩ := hh _ _ e0
     split at q
     · rename_i ns eb
       obtain rfl := intsT_some eb
       obtain rfl := Reps.ints g2
       exact call_sum_ints hc pins s σ H _ us Q2 I r ⟨_, ns, rfl, SqL.of g1, en _ _ M H Kp.refl hh rep_int q⟩
     · exact q.elim
   · exact q.elim
 · exact q.elim
end
end L2
namespace L2
open PySem PySem.Spec PyProof.Rows LM
section
variable {κ : Type} [DecidableEq κ]
theorem valT_map (k j : κ) (y : T) : ∀ kvs : List (κ × T), valT (kvs.map fun kv => if kv.1 = k then (kv.1, y) else kv) j = if j = k then (valT kvs j).map (fun _ => y) else valT kvs j
 | [] => by show (none : Option T) = _; split <;> rfl
 | p :: r => by
   have ih := valT_map k j y r
   rw [List.map_cons, valT_cons, valT_cons, ih]
   by_cases c : p.1 = k
   · rw [if_pos c]
     by_cases d : p.1 = j
     · rw [if_pos d, if_pos d, if_pos (d.symm.trans c)]; rfl
     · rw [if_neg d, if_neg d]
   · rw [if_neg c]
     by_cases d : p.1 = j
     · rw [if_pos d, if_pos d, if_neg (fun z => c (d.trans z))]
     · rw [if_neg d, if_neg d]
theorem valT_snoc (k j : κ) (y : T) : ∀ kvs : List (κ × T), valT (kvs ++ [(k, y)]) j = match valT kvs j with | some t => some t | none => if k = j then some y else none
 | [] => by rw [List.nil_append, valT_cons]; rfl
 | p :: r => by
   rw [List.cons_append, valT_cons, valT_cons, valT_snoc k j y r]
   by_cases d : p.1 = j
   · rw [if_pos d, if_pos d]
   · rw [if_neg d, if_neg d]
theorem valT_any (k : κ) : ∀ kvs : List (κ × T), (kvs.any fun kv => decide (kv.1 = k)) = (valT kvs k).isSome
 | [] => rfl
 | p :: r => by
   rw [List.any_cons, valT_cons, valT_any k r]
   by_cases e : p.1 = k
   · rw [if_pos e, decide_eq_true e]; rfl
   · rw [if_neg e, decide_eq_false e]; rfl
theorem valT_put (kvs : List (κ × T)) (k j : κ) (y : T) : valT (putT kvs k y) j = if j = k then some y else valT kvs j := by
 unfold putT
 rw [valT_any]
 by_cases c : (valT kvs k).isSome = true
 · rw [if_pos c, valT_map]
   by_cases d : j = k
   · rw [if_pos d, if_pos d]
     subst d
     cases e : valT kvs j with
     | none => rw [e] at c; cases c
     | some t => rfl
   · rw [if_neg d, if_neg d]
 · rw [if_neg c, valT_snoc]
   have hn : valT kvs k = none := by
     cases e : valT kvs k with
     | none => rfl
     | some t => rw [e] at c; exact absurd rfl c
   by_cases d : j = k
   · subst d
     rw [hn]
   · rw [if_neg d]
     cases valT kvs j with
     | none => rw [if_neg (fun z => d z.symm)]
     | some t => rfl
end
section
variable {X : Cx}
end
end L2
namespace L2
open PySem PySem.Spec PyProof.Rows LM
noncomputable def g2 (tab : List (List Int)) (a b : Int) : Int := gI (tab.getD a.toNat []) b
noncomputable def InM (m c : Int) : Prop := 0 ≤ c ∧ c < m
theorem range0_iff {m c : Int} : c ∈ range0 m ↔ InM m c := ⟨mem_range0, fun h => range0_mem h.1 h.2⟩
noncomputable def iv (tab : List (List Int)) (d c : Int) : Int := ((range0 tab.length).find? fun a => decide (g2 tab a c = d)).getD 0
end L2
namespace L2
open PySem PySem.Spec PyProof.Rows LM
theorem folL_append (u v : List Int) (p : Int) : folL (u ++ v) p = folL v (folL u p) := List.foldl_append
end L2
namespace L2
open PySem PySem.Spec PyProof.Rows LM
section
variable {X : Cx}
end
theorem perm_of_sub : ∀ (l r : List Int), l.Nodup → (∀ x ∈ l, x ∈ r) → r.length ≤ l.length → l.Perm r
 | [], r, _, _, h => by
   rw [List.length_nil] at h
   rw [List.eq_nil_of_length_eq_zero (by lia : r.length = 0)]
 | x :: l, r, nd, hs, h => by
   have hx := hs x List.mem_cons_self
   have nd' := List.nodup_cons.mp nd
   refine (List.Perm.cons x (perm_of_sub l (r.erase x) nd'.2 (fun y hy => ?_) ?_)).trans (List.perm_cons_erase hx).symm
   · exact (List.mem_erase_of_ne (fun z => nd'.1 (by rw [← z]; exact hy))).mpr (hs y (List.mem_cons_of_mem _ hy))
   · rw [List.length_erase_of_mem hx]
     rw [List.length_cons] at h
     lia
theorem gI_in {us : List Int} {m : Int} (hp : us.Perm (range0 m)) {a : Int} (ha : InM m a) : InM m (gI us a) ∧ ((us.idxOf (gI us a) : Nat) : Int) = a := by
 have e : us.length = m.toNat := by rw [hp.length_eq, range0_length]
 have hl : a.toNat < us.length := by have := ha.1; have := ha.2; lia
 have hg : gI us a = us[a.toNat] := by
   unfold gI
   rw [List.getD_eq_getElem?_getD, List.getElem?_eq_getElem hl]; rfl
 have nd : us.Nodup := hp.nodup_iff.mpr (range0_nodup m)
 rw [hg]
 refine ⟨range0_iff.mp (hp.mem_iff.mp (List.getElem_mem hl)), ?_⟩
 have hi := List.idxOf_lt_length_of_mem (List.getElem_mem hl)
 have h2 : us[us.idxOf us[a.toNat]] = us[a.toNat] := List.getElem_idxOf hi
 have q : us.idxOf us[a.toNat] = a.toNat := by
   have pw := List.pairwise_iff_getElem.mp nd
   rcases Nat.lt_trichotomy (us.idxOf us[a.toNat]) a.toNat with z | z | z
   · exact absurd h2 (pw _ _ hi hl z)
   · exact z
   · exact absurd h2.symm (pw _ _ hl hi z)
 rw [q]
 exact Int.toNat_of_nonneg ha.1
end L2
namespace L2
open PySem PySem.Spec PyProof.Rows LM
section
variable {prog : Program} {w : World} {A : Around} {E : Value → Shared → Prop} {s : Shared}
end
section
variable {X : Cx} {pos : Pos}
end
theorem filt_snoc {α : Type} (f : α → Bool) {L : List α} {i : Nat} {x : α} (h : L[i]? = some x) : (L.take (i + 1)).filter f = (L.take i).filter f ++ if f x = true then [x] else [] := by
 rw [List.take_add_one, h, List.filter_append]
 congr 1
 show List.filter f [x] = _
 rw [List.filter_cons]
 rfl
end L2
namespace L2
open PySem PySem.Spec PyProof.Rows LM
section
variable {X : Cx} {Ha : Hp} {a b : Expr} {ta tb : TE3} {tA : TT3} {pos : Pos}
end
section
variable {X : Cx} {Ha : Hp}
end
section
variable {X : Cx} {pos : Pos}
end
end L2
namespace L2
open PySem PySem.Spec PyProof.Rows LM
section
variable {X : Cx}
end
end L2
namespace L2
open PySem PySem.Spec PyProof.Rows LM
section
variable {X : Cx}
end
end L2
namespace L2
open PySem PySem.Spec PyProof.Rows LM
section
variable {X : Cx} {e : Expr} {te : TE3} {p p2 pos pos2 : Pos}
end
end L2
namespace L2
open PySem PySem.Spec PyProof.Rows LM
noncomputable def insA (x : Int) : List Int → List (List Int)
 | [] => [[x]]
 | y :: l => (x :: y :: l) :: (insA x l).map (y :: ·)
noncomputable def permsL : List Int → List (List Int)
 | [] => [[]]
 | x :: l => (permsL l).flatMap (insA x)
theorem mem_insA (x : Int) : ∀ s t : List Int, s ++ x :: t ∈ insA x (s ++ t)
 | [], [] => .head _
 | [], y :: t => .head _
 | y :: s, t => .tail _ (List.mem_map.mpr ⟨_, mem_insA x s t, rfl⟩)
theorem mem_permsL : ∀ {l r : List Int}, r.Perm l → r ∈ permsL l
 | [], r, h => by rw [h.eq_nil]; exact .head _
 | x :: l, r, h => by
   obtain ⟨s, t, rfl⟩ := List.append_of_mem (h.mem_iff.mpr (.head _))
   have h2 : (s ++ t).Perm l := (List.perm_middle.symm.trans h).cons_inv
   exact List.mem_flatMap.mpr ⟨_, mem_permsL h2, mem_insA x s t⟩
noncomputable def cyc (o : List Int) (b : Int) : Nat → Int → List Int → Option (List Int)
 | 0, _, _ => none
 | f + 1, a, acc => if a = b then some acc else cyc o b f (gI o a) (acc ++ [a])
noncomputable def pcF (o : List Int) (n b : Int) : List Int := (range0 n).filter fun x => ((cyc o b 7 (gI o b) [b]).getD []).contains x
noncomputable def cycB (n : Nat) : Bool := (permsL (range0 n)).all fun o => (range0 n).all fun b => match cyc o b 7 (gI o b) [b] with
 | none => false
 | some c => decide (c.Perm (pcF o n b))
theorem cyc_all : cycB 1 = true ∧ cycB 2 = true ∧ cycB 3 = true ∧ cycB 4 = true ∧ cycB 5 = true ∧ cycB 6 = true := by decide +kernel
theorem cyc_is {o : List Int} {n b : Int} (n1 : 1 ≤ n) (n6 : n ≤ 6) (ho : IsP n o) (hb : b ∈ range0 n) : ∃ c, cyc o b 7 (gI o b) [b] = some c ∧ c.Perm (pcF o n b) := by
 have key : cycB n.toNat = true := by
   obtain ⟨h1, h2, h3, h4, h5, h6⟩ := cyc_all
   rcases (show n = 1 ∨ n = 2 ∨ n = 3 ∨ n = 4 ∨ n = 5 ∨ n = 6 by lia) with rfl | rfl | rfl | rfl | rfl | rfl
   · exact h1
   · exact h2
   · exact h3
   · exact h4
   · exact h5
   · exact h6
 have e : ((n.toNat : Nat) : Int) = n := by lia
 unfold cycB at key
 rw [e] at key
 have k2 := List.all_eq_true.mp (List.all_eq_true.mp key o (mem_permsL ho)) b hb
 cases q : cyc o b 7 (gI o b) [b] with
 | none => rw [q] at k2; cases k2
 | some c => rw [q] at k2; exact ⟨c, rfl, of_decide_eq_true k2⟩
end L2
namespace L2
open PySem PySem.Spec PyProof.Rows LM
noncomputable def sAugDT (td : TE3) (t : TA3) (j : Nat) (f : Int → Int → Int) : TS3 := fun D ρ M => td ρ M fun x M1 => t ρ M1 fun ks M2 => ks.length ≤ sizeLine ∧ (match x with
 | .adr p => (match M2 p with
   | some (.dt kvs) => ∃ (kk : List Key) (n z : Int), ks = kk.map keyT ∧ valT kvs kk = some (.int n) ∧ ρ[j]? = some (some (.int z)) ∧ kvs.length < sizeLine ∧ D.nx ρ (updM M2 p (.dt (putT kvs kk (.int (f n z)))))
   | _ => False)
 | _ => False)
section
variable {X : Cx}
theorem s_augDT {o : Expr} {es : List Expr} {x1} {p1 pv : Pos} {x : Str} (j : Nat) {td : TE3} {t : TA3} {op : Operator} {f : Int → Int → Int} {pos tpos : Pos} (hu : X.A.units + 64 < cLine) (hp : PIp X op (ipI f)) (ho : HE X o td) (hi : HA X es t)
   (hN : X.N[j]? = some x := by rfl) (hv : Vis X.env.scope x := by first | exact Or.inl rfl | exact Or.inr (Or.inl rfl) | exact Or.inr (Or.inr rfl)) (hd : (x == ("__debug__" : Str)) = false := by decide) (hcd : (x == ("__classdict__" : Str)) = false := by decide)
   (ha : ∀ ov iv new, augStore (.Tuple es x1 p1) ov iv new = (do holding [new, ov, iv] (setItem ov iv new); release [new, ov, iv] []; pure .next) := by intros; rfl) : HS X (.AugAssign (.Subscript o (.Tuple es x1 p1) tpos) op (.Name x pv) pos) (sAugDT td t j f) := fun D ρ M h =>
 (ps_daug (rd := ipI f) (by lia) (ho.d (ρ := ρ)) (pe_tup (hi.d (ρ := ρ))) (pe_var hN hv hd hcd) (fun pins s σ H x y u v Q => hp pins s σ H x y u v Q) ha).imp fun D2 σ H ⟨hr, hh, en⟩ => ⟨M, _, h, hr, hh, fun x v M1 H1 k1 h1 r1 q1 => ⟨M1, _, q1, hr.kp k1, h1, fun ks vs M2 H2 k2 h2 r2 q2 => by
   obtain ⟨hz, q2⟩ := q2
   refine ⟨by rw [r2.length]; exact hz, fun b hb => ?_⟩
   cases x with
   | adr p =>
     cases r1
     dsimp only at q2
     split at q2
     · rename_i kvs e
       obtain ⟨kk, n, z, rfl, ev, ej, hl, q2⟩ := q2
       obtain rfl := rep_keys r2
       obtain ⟨xs, g1, g2⟩ := h2 _ _ e
       have hv := g2.val kk
       rw [ev] at hv
       obtain ⟨u, e1, e2⟩ := hv
       obtain rfl := inv_int e2
       obtain ⟨y, ey, ry⟩ := hr.2 j _ ej
       obtain rfl := inv_int ry
       have np : p ≠ b := fun z => by rw [← z, g1] at hb; cases hb
       have kb := Kp.new (K := X.K) (o := .tup (kk.map kV)) hb
       have g1' : upd H2 b (.tup (kk.map kV)) p = some (.dT xs) := by rw [upd_ne np]; exact g1
       have kk' := Kp.dict (K := X.K) (u := .dT (putK xs kk (.int (f n z)))) g1' (.inr ⟨_, rfl⟩)
       have kall := (k1.trans k2).trans (kb.trans kk')
       exact ⟨_, .int n, rfl, by rw [← e1]; exact DGet.t g1' upd_same, .int z, ey, n, z, rfl, rfl, _, DPut.t g1' upd_same (by rw [g2.length]; exact hl), en.nx _ _ _ _ kall (hr.kp kall) ((h2.keep hb).setT g1' (.inr ⟨_, rfl⟩) ((g2.kp kb).put kk rep_int)) q2⟩
     · exact q2.elim
   | _ => exact q2.elim⟩⟩
end
end L2
namespace L2
open PySem PySem.Spec PyProof.Rows LM
noncomputable def mkS (st m : List Int) (p : Int) : List Int := (m.set p.toNat (if gI m (gI st p) < gI m p then gI m (gI st p) else gI m p)).set (gI st p).toNat (if gI m (gI st p) < gI m p then gI m (gI st p) else gI m p)
noncomputable def mkR (st : List Int) (n : Int) (m : List Int) : List Int := (range0 n).foldl (mkS st) m
noncomputable def mkF (st : List Int) (n : Int) : List Int := (range0 n).foldl (fun m _ => mkR st n m) (range0 n)
noncomputable def lpF (st : List Int) (n : Int) : List (List Int) := ((range0 n).filter fun p => decide (gI (mkF st n) p = p)).map fun p => (range0 n).filter fun q => decide (gI (mkF st n) q = p)
noncomputable def pcs (o : List Int) (n : Int) : List (List Int) := ((range0 n).filter fun b => decide (gI (pcF o n b) 0 = b)).map (pcF o n)
noncomputable def lpB (n : Nat) : Bool := (permsL (range0 n)).all fun st => decide (lpF st n = pcs ((range0 n).map fun s => ((st.idxOf s : Nat) : Int)) n)
theorem lp_all5 : lpB 1 = true ∧ lpB 2 = true ∧ lpB 3 = true ∧ lpB 4 = true ∧ lpB 5 = true := by decide +kernel
theorem lp_all6 : lpB 6 = true := by decide +kernel
theorem lp_is {st : List Int} {n : Int} (n1 : 1 ≤ n) (n6 : n ≤ 6) (h : IsP n st) : lpF st n = pcs ((range0 n).map fun s => ((st.idxOf s : Nat) : Int)) n := by
 have key : lpB n.toNat = true := by
   obtain ⟨h1, h2, h3, h4, h5⟩ := lp_all5
   rcases (show n = 1 ∨ n = 2 ∨ n = 3 ∨ n = 4 ∨ n = 5 ∨ n = 6 by lia) with rfl | rfl | rfl | rfl | rfl | rfl
   · exact h1
   · exact h2
   · exact h3
   · exact h4
   · exact h5
   · exact lp_all6
 have e : ((n.toNat : Nat) : Int) = n := by lia
 unfold lpB at key
 rw [e] at key
 exact of_decide_eq_true (List.all_eq_true.mp key st (mem_permsL h))
theorem lp_pcs {n : Int} {ws : List Int} (n1 : 1 ≤ n) (n6 : n ≤ 6) (hw : WordOK n ws) : lpF (standL n ws) n = pcs (orderL n ws) n := lp_is n1 n6 (stand_perm n ws (by lia) hw)
end L2
namespace L2
open PySem PySem.Spec PyProof.Rows LM
section
variable {P : Program} {w : World} {A : Around} {E : Value → Shared → Prop} {s : Shared}
theorem keysOf_begin {d : Addr} {o : Obj} {es : Array DictEntry} {ep : Nat} {Q : Value → Shared → Prop} (hd : (d == sysModules) = false) (ho : s.heap.get? d = some o) (hc : o.ExactDict) (hdat : o.data = .dict es ep)
   (hQ : ∀ s1 it, it = s.heap.objs.size → s1.toks = s.toks → s1.gens = s.gens → s1 = { s with heap := s.heap.push { cls := .type "dict_keyiterator", data := .fields #[.ref d, .int 0 0, .int es.size 0, .int ep 0] } } → Q (.ref it) s1) : wpAny (model P w) A (pyIter (.ref d)) Q E s := by
 have hT : s.TypeIs (.ref d) "dict" := ⟨o, ho, hc.1⟩
 refine wpAny_pyIter_slot hT F.slot_dict_iter (wpAny_call_entry F.slot_dict_iter hT F.entry_dict_iter (by
   unfold Builtin.«dict.__iter__»; refine wpAny_bind ?_; unfold Builtin.Dict.dictSlotNone
   refine wpAny_bind (wpAny_notOrdered_dict hT (by
     show wpAny _ _ (pure (Value.ref d)) _ _ s; refine wpAny_pure ?_
     show wpAny _ _ (Builtin.Dict.showsAll d >>= _) _ _ s; unfold Builtin.Dict.showsAll; rw [if_neg (fun z => by rw [hd] at z; cases z)]
     refine wpAny_bind (wpAny_pure (wpAny_bind (wpAny_dictEntries ho hdat (wpAny_bind (wpAny_dictEpoch ho hdat (wpAny_bind (wpAny_newObj_type (wpAny_pure ⟨_, rfl, "dict_keyiterator", _, ⟨_, Heap.get?_push_size _ rfl, rfl⟩, F.slot_dict_keyiterator_next.lookup, ?_⟩))))))))
     exact hQ _ _ rfl rfl rfl (by simp [rawInt])))) (F.args_dict_iter_1 _))
theorem keysOf_item {it d : Addr} {o : Obj} {es : Array DictEntry} {ep i : Nat} {e : DictEntry} {Q : Option Value → Shared → Prop} (hit : s.heap.IsKeyIter it d i es.size ep) (ho : s.heap.get? d = some o) (hdat : o.data = .dict es ep) (hx : es[i]? = some e)
   (hQ : ∀ h', h'.IsKeyIter it d (i + 1) es.size ep → Heap.SameBut it s.heap h' → Q (some e.key) { s with heap := h' }) : wpAny (model P w) A (pyNext (.ref it)) Q E s := by
 obtain ⟨oi, hoi, hci, hdi⟩ := id hit; unfold pyNext
 refine wpAny_bind (wpAny_attempt (wpAny_callSpecial?_slot (name := Str.ofString "__next__") hit.typeIs F.slot_dict_keyiterator_next (wpAny_call_entry F.slot_dict_keyiterator_next hit.typeIs F.entry_dict_keyiterator_next (wpAny_bind (wpAny_pure (wpAny_bind (wpAny_bind ?_)))) (F.args_dict_keyiterator_next_1 _))))
 first | refine wpAny_bind (wpAny_typeNameOfWhole_keyiter hit.typeIs (wpAny_pure (wpAny_fieldsOf hoi hdi ?_ |> wpAny_bind))) | refine wpAny_bind (wpAny_typeNameOf_keyiter hit.typeIs (wpAny_pure (wpAny_fieldsOf hoi hdi ?_ |> wpAny_bind)))
 simp only [show Builtin.Dict_items.ownsTuple "dict_keyiterator" = false by decide, Bool.false_eq_true, if_false]
 show wpAny _ _ (if (Value.ref d == Value.none) = true then _ else _) _ _ s; rw [if_neg (fun z => by cases z)]
 refine wpAny_bind (wpAny_pure (wpAny_bind (wpAny_dictEntries ho hdat ?_))); rw [if_neg (by simp)]
 refine wpAny_bind (wpAny_pure (wpAny_bind (wpAny_dictEpoch ho hdat ?_))); rw [if_neg (by simp)]; refine wpAny_pure ?_
 simp only [show ¬ ((i : Int) < 0) from by lia, if_false, Int.toNat_natCast, hx]
 refine wpAny_bind ?_
 first | refine wpAny_bind (wpAny_typeNameOfWhole_keyiter hit.typeIs (wpAny_pure (wpAny_bind (wpAny_isOneOf_keyiter hit.typeIs ?_)))) | refine wpAny_bind (wpAny_typeNameOf_keyiter hit.typeIs (wpAny_pure (wpAny_bind (wpAny_isOneOf_keyiter hit.typeIs ?_))))
 show wpAny _ _ (setField (.ref it) 1 (rawInt ((i : Int) + 1)) >>= _) _ _ s; refine wpAny_bind (wpAny_setField hoi hdi (by simp) ?_)
 have hit' : (s.heap.update it (Obj.mapFields (·.setIfInBounds 1 (rawInt ((i : Int) + 1))))).IsKeyIter it d (i + 1) es.size ep := ⟨_, Heap.get?_update_self _ hoi (Obj.isFreed_of_fields (Obj.data_mapFields hdi _)), (Obj.cls_mapFields ..).trans hci, by rw [Obj.data_mapFields hdi]; simp [rawInt]⟩
 refine wpAny_bind (wpAny_holding (wpAny_bind (wpAny_isOneOf_keyiter (s := { s with heap := s.heap.update it (Obj.mapFields (·.setIfInBounds 1 (rawInt ((i : Int) + 1)))) }) hit'.typeIs ?_)))
 show wpAny _ _ (pure e.key) _ _ _; exact wpAny_pure (wpAny_pure ⟨_, rfl, wpAny_pure (hQ _ hit' (Heap.SameBut.update ..))⟩)
theorem keysOf_stop {it d : Addr} {o : Obj} {es : Array DictEntry} {ep i : Nat} {Q : Option Value → Shared → Prop} (hh : A.handled = none) (hit : s.heap.IsKeyIter it d i es.size ep) (ho : s.heap.get? d = some o) (hdat : o.data = .dict es ep) (hx : es[i]? = none)
   (hQ : ∀ h', Heap.ExtBut it s.heap h' → Q none { s with heap := h' }) : wpAny (model P w) A (pyNext (.ref it)) Q E s := by
 obtain ⟨oi, hoi, hci, hdi⟩ := id hit; unfold pyNext
 refine wpAny_bind (wpAny_attempt (wpAny_callSpecial?_slot (name := Str.ofString "__next__") hit.typeIs F.slot_dict_keyiterator_next (wpAny_call_entry F.slot_dict_keyiterator_next hit.typeIs F.entry_dict_keyiterator_next (wpAny_bind (wpAny_pure (wpAny_bind (wpAny_bind ?_)))) (F.args_dict_keyiterator_next_1 _))))
 first | refine wpAny_bind (wpAny_typeNameOfWhole_keyiter hit.typeIs (wpAny_pure (wpAny_fieldsOf hoi hdi ?_ |> wpAny_bind))) | refine wpAny_bind (wpAny_typeNameOf_keyiter hit.typeIs (wpAny_pure (wpAny_fieldsOf hoi hdi ?_ |> wpAny_bind)))
 simp only [show Builtin.Dict_items.ownsTuple "dict_keyiterator" = false by decide, Bool.false_eq_true, if_false]
 show wpAny _ _ (if (Value.ref d == Value.none) = true then _ else _) _ _ s; rw [if_neg (fun z => by cases z)]
 refine wpAny_bind (wpAny_pure (wpAny_bind (wpAny_dictEntries ho hdat ?_))); rw [if_neg (by simp)]
 refine wpAny_bind (wpAny_pure (wpAny_bind (wpAny_dictEpoch ho hdat ?_))); rw [if_neg (by simp)]; refine wpAny_pure ?_
 simp only [show ¬ ((i : Int) < 0) from by lia, if_false, Int.toNat_natCast, hx]
 refine wpAny_bind ?_
 refine wpAny_bind (wpAny_typeNameOfWhole_keyiter hit.typeIs (wpAny_pure ?_))
 show wpAny _ _ (setField (.ref it) 0 .none >>= _) _ _ s; refine wpAny_bind (wpAny_setField hoi hdi (by simp) ?_)
 show wpAny _ _ (newExc (.type "StopIteration") [] >>= _) _ _ _; refine wpAny_bind ?_
 simp only [newExc, newTuple]; refine wpAny_bind (wpAny_newObj_type ?_ (by size_fits))
 refine wpAny_bind (m := firstArgMember _ _) (wpAny_of_eq (a := Value.none) (by first | rfl | (simp only [firstArgMember]; rfl)) (wpAny_newObj_type ?_ (by size_fits)))
 simp only [raiseNew]; refine wpAny_bind (wpAny_handled ?_); rw [show A.in1.handled = none from hh]
 refine wpAny_bind (wpAny_pure (wpAny_throw ?_)); refine wpAny_bind (wpAny_isInstance (T := "StopIteration") (b := true) ⟨_, Heap.get?_push_size _ rfl, rfl⟩ isSubtype_stop (wpAny_pure (hQ _ (((Heap.SameBut.update ..).extBut.push _).push _))))
end
noncomputable def Itk (d : Addr) (o : Obj) : It :=
 ⟨fun i H => ∃ kvs kv, H d = some (.frz o (.dT kvs)) ∧ kvs[i]? = some kv, fun i H x H' => H' = H ∧ ∀ kvs kv, H d = some (.frz o (.dT kvs)) → kvs[i]? = some kv → ∃ b, x = .ref b ∧ H b = some (.tup (kv.1.map kV)), fun i H => ∃ kvs, H d = some (.frz o (.dT kvs)) ∧ kvs.length ≤ i⟩
theorem paired_at {α β : Type} {F : α → β → Prop} : ∀ {xs : List α} {ys : List β} {i : Nat} {x : α}, Paired F xs ys → xs[i]? = some x → ∃ y, ys[i]? = some y ∧ F x y
 | _, _, _, _, .nil, e => by simp at e
 | _, _, 0, _, .cons r _, e => by simp at e; subst e; exact ⟨_, rfl, r⟩
 | _, _, i + 1, x, .cons _ t, e => by
   obtain ⟨u, h1, h2⟩ := paired_at (i := i) (x := x) t (by simpa using e)
   exact ⟨u, by simpa using h1, h2⟩
theorem keys_of_frz {P : Program} {w : World} {H : Hp} {h : Heap} {d : Addr} {o : Obj} {kvs : List (List Key × V)} (ok : HOk P w H h) (e : H d = some (.frz o (.dT kvs))) :
   h.get? d = some o ∧ o.ExactDict ∧ ∃ es ep, o.data = .dict es ep ∧ es.size = kvs.length ∧ ∀ (i : Nat) kv, kvs[i]? = some kv → ∃ en b, es[i]? = some en ∧ en.key = .ref b ∧ H b = some (.tup (kv.1.map kV)) := by
 obtain ⟨g, z, y, xs, r, o', es, ep, h1, h2, h3, h4, h5⟩ := (show h.get? d = some o ∧ ObjOk P w H h d (.dT kvs) from ok d _ e)
 rw [g] at h1
 obtain rfl := Option.some.inj h1
 refine ⟨g, h2, es, ep, h3, ?_, fun i kv hi => ?_⟩
 · rw [← Array.length_toList, h4, List.length_map, Paired.length r]
 · obtain ⟨q, e1, e2, e3, e4⟩ := paired_at r hi
   exact ⟨entryOfKey (tupleKind (mixKind P w)) q, q.2.1, by rw [← Array.getElem?_toList, h4, List.getElem?_map, e1]; rfl, rfl, e3⟩
theorem turn_keys {P : Program} {w : World} {K : PySem.W.Frag} {tg : Expr} (d : Addr) (o : Obj) (it : Addr) : Turn P w K tg (Itk d o) [it] it (fun i h => ∃ es ep, o.data = .dict es ep ∧ h.IsKeyIter it d i es.size ep) where
 mem := by simp
 obj := fun i h st b hb => by
   have e : b = it := by simpa using hb
   subst e
   obtain ⟨_, _, _, o', e, c, d⟩ := st
   exact ⟨o', e, fun v z => by rw [d] at z; cases z⟩
 keep := fun i h h' st k => let ⟨es, ep, a, st⟩ := st; ⟨es, ep, a, st.at fun o e => k it (by simp) o e⟩
 item := by
   intro X hP hw hK hc i pins s σ H E I hf st hg
   subst hP hw hK
   obtain ⟨kvs, kv, hq, hx⟩ := hg
   obtain ⟨es, ep, hdat, st⟩ := st
   obtain ⟨g, _, es', ep', hdat', hsz, hat⟩ := keys_of_frz I.hok hq
   rw [hdat] at hdat'
   obtain ⟨rfl, rfl⟩ : es = es' ∧ ep = ep' := by injection hdat' with a b; exact ⟨a, b⟩
   obtain ⟨en, b, h1, h2, h3⟩ := hat i kv hx
   obtain ⟨f0, f1, f2, f3, f4, f5⟩ := hf it (by simp)
   refine keysOf_item st g hdat h1 fun h' st' sb => ?_
   have I1 : Inv X pins σ H { s with heap := h' } := I.turned (t' := s.toks) (fun b o hb e => (sb.2 b hb).trans e) f0 f1 f3 f4 f5
   obtain ⟨oi, e, c, dd⟩ := id st'
   refine ⟨en.key, rfl, go_of (s := { s with heap := h' }) e c dd (by decide) ⟨.ref b, H, I1, by rw [h2]; exact rfl, ⟨rfl, fun kvs2 kv2 q2 x2 => ?_⟩, ⟨es, ep, hdat, st'⟩, fun b hb => (hf b hb).1⟩⟩
   rw [hq] at q2
   cases q2
   rw [hx] at x2
   cases x2
   exact ⟨b, rfl, h3⟩
 done := by
   intro X hP hw hK hc i pins s σ H E I hf st hg
   subst hP hw hK
   obtain ⟨kvs, hq, hx⟩ := hg
   obtain ⟨es, ep, hdat, st⟩ := st
   obtain ⟨g, _, es', ep', hdat', hsz, hat⟩ := keys_of_frz I.hok hq
   rw [hdat] at hdat'
   obtain ⟨rfl, rfl⟩ : es = es' ∧ ep = ep' := by injection hdat' with a b; exact ⟨a, b⟩
   obtain ⟨f0, f1, f2, f3, f4, f5⟩ := hf it (by simp)
   exact keysOf_stop (I.ok.hd hc) st g hdat (Array.getElem?_eq_none (by lia)) fun h' eb => ⟨rfl, I.turned (t' := s.toks) (fun b o hb e => eb b o hb e) f0 f1 f3 f4 f5⟩
 self := fun _ _ _ _ _ st h => let ⟨_, _, _, st⟩ := st; wpAny_pyIter_keyiter st h
noncomputable def keyTs (kvs : List (List Key × T)) : List T := kvs.map fun kv => .tup (kv.1.map keyT)
theorem keyTs_length (kvs : List (List Key × T)) : (keyTs kvs).length = kvs.length := List.length_map ..
theorem krep_at {κ : Type} {K : PySem.W.Frag} {H : Hp} : ∀ {xs : List (κ × V)} {kvs : List (κ × T)} {i : Nat} {kv : κ × T}, KRep K H xs kvs → kvs[i]? = some kv → ∃ x, xs[i]? = some x ∧ x.1 = kv.1
 | [], [], _, _, _, e => by simp at e
 | p :: r, q :: u, 0, kv, h, e => by simp at e; subst e; exact ⟨p, rfl, h.1⟩
 | p :: r, q :: u, i + 1, kv, h, e => by
   obtain ⟨x, a, b⟩ := krep_at (i := i) h.2.2 (by simpa using e)
   exact ⟨x, by simpa using a, b⟩
 | [], q :: u, _, _, h, _ => h.elim
 | p :: r, [], _, _, h, _ => h.elim
theorem keys_rep {K : PySem.W.Frag} {H : Hp} : ∀ ks : List Key, Reps K H (ks.map kV) (ks.map keyT)
 | [] => by rw [List.map_nil, List.map_nil]; unfold Reps; rfl
 | k :: ks => by
   rw [List.map_cons, List.map_cons]
   unfold Reps
   refine ⟨_, _, rfl, ?_, keys_rep ks⟩
   cases k with
   | inl i => exact rep_int
   | inr x => exact rep_str
theorem itok_keys {K : PySem.W.Frag} {H : Hp} {d : Addr} {o : Obj} {kvs : List (List Key × T)} : ItOk K H (Itk d o) ⟨keyTs kvs, fun M' => ∃ xs, H d = some (.frz o (.dT xs)) ∧ KRep K H xs kvs⟩ := by
 refine ⟨fun H' M' k hh ⟨xs, g, r⟩ => ⟨xs, k.frz _ _ _ g, ?_⟩, fun i x H' M' e k hh ⟨xs, g, r⟩ => ?_⟩
 · show xs.length ≤ (keyTs kvs).length
   rw [keyTs_length, r.length]; exact Nat.le_refl _
 · unfold keyTs at e
   rw [List.getElem?_map] at e
   obtain ⟨kv, e1, rfl⟩ := Option.map_eq_some_iff.mp e
   obtain ⟨xv, e2, e3⟩ := krep_at r e1
   refine ⟨⟨xs, xv, k.frz _ _ _ g, e2⟩, fun v H'' y => ?_⟩
   obtain ⟨rfl, y⟩ := y
   obtain ⟨b, rfl, hb⟩ := y xs xv (k.frz _ _ _ g) e2
   rw [e3] at hb
   exact ⟨Kp.refl, hh, rep_tup (SqT.of hb) (keys_rep kv.1)⟩
noncomputable def iKeyT (tl : TE3) : TI3 := fun ρ M R => tl ρ M fun x M1 => match x with
 | .adr p => (match M1 p with | some (.dt kvs) => R ⟨keyTs kvs, fun _ => True⟩ (updM M1 p (.fz kvs)) | _ => False)
 | _ => False
section
variable {X : Cx}
theorem i_keys {tg l : Expr} {tl : TE3} (hl : HE X l tl) : HI X tg l (iKeyT tl) := by
 intro ρ M R h pins s σ H R2 I b
 obtain ⟨hr, hh, en⟩ := b
 refine thn (hl ρ M _ h pins s σ H (fun v H1 => ∃ t M1, Kp X.K H H1 ∧ HR X.K H1 M1 ∧ Rep X.K H1 v t ∧ (match t with
   | .adr p => (match M1 p with | some (.dt kvs) => R ⟨keyTs kvs, fun _ => True⟩ (updM M1 p (.fz kvs)) | _ => False)
   | _ => False)) I ⟨hr, hh, fun t v M1 H1 k1 h1 r1 q1 => ⟨t, M1, k1, h1, r1, q1⟩⟩) fun v s1 ⟨x, H1, I1, rv, t, M1, k1, h1, r1, q1⟩ => ?_
 split at q1
 · rename_i a
   obtain rfl := inv_adr r1
   cases rv
   split at q1
   · rename_i kvs e0
     obtain ⟨xs, g1, g2⟩ := h1 _ _ e0
     obtain ⟨z, y, xs2, r, o, es, ep, h1', h2, h3, h4, h5⟩ := (show ObjOk X.prog X.w H1 s1.heap a (.dT xs) from I1.hok a _ g1)
     have kd := Kp.dict (K := X.K) (u := .frz o (.dT xs)) g1 (.inr ⟨_, rfl⟩)
     have I2 : Inv X pins σ (upd H1 a (.frz o (.dT xs))) s1 := I1.write (t' := s1.toks) (by rw [g1]; trivial) (.inl rfl) (fun b u _ e => e) ⟨o, h1'⟩
       ⟨h1', z, y, xs2, Paired.mapP r fun p q w => ⟨w.1, by rw [upd_ne (ne_of w.2.1 g1 (by intro z; cases z))]; exact w.2.1, w.2.2⟩, o, es, ep, h1', h2, h3, h4, h5⟩
     have gr : KRep X.K (upd H1 a (.frz o (.dT xs))) xs kvs := g2.kp kd
     refine keysOf_begin y h1' h2 h3 fun s2 it hit ht hgn hs2 => ?_
     subst hs2 hit
     refine ⟨s1.heap.objs.size, [s1.heap.objs.size], _, _, _, rfl, I2.kept (t' := s1.toks) fun b o e => Heap.get?_push_of_some _ e, turn_keys a o _, ⟨es, ep, h3, _, Heap.get?_push_size _ rfl, rfl, rfl⟩, fun b hb => ?_, en ⟨keyTs kvs, fun _ => True⟩ _ (updM M1 a (.fz kvs)) _ (k1.trans kd) (fun c u ec => ?_) ?_ q1⟩
     · have e : b = s1.heap.objs.size := by simpa using hb
       subst e
       exact I2.fpOk (Nat.le_refl _) (I2.hok.fresh (Nat.le_refl _))
     · by_cases hc : c = a
       · subst hc
         rw [updM_same] at ec; cases ec
         exact ⟨o, xs, upd_same, gr⟩
       · rw [updM_ne hc] at ec
         exact (h1 c u ec).kp kd fun u _ q => by rw [upd_ne hc]; exact q
     · have base := itok_keys (K := X.K) (H := upd H1 a (.frz o (.dT xs))) (d := a) (o := o) (kvs := kvs)
       exact ⟨fun H' M' k hh _ => base.stop H' M' k hh ⟨xs, upd_same, gr⟩, fun i x H' M' e k hh _ => base.go i x H' M' e k hh ⟨xs, upd_same, gr⟩⟩
   · exact q1.elim
 · exact q1.elim
noncomputable def tDGZ (td : TE3) (t : TA3) : TE3 := fun ρ M Q => td ρ M fun x M1 => t ρ M1 fun ks M2 => ks.length ≤ sizeLine ∧ (match x with
 | .adr p => (match M2 p with
   | some (.fz kvs) => ∃ (kk : List Key) (t : T), ks = kk.map keyT ∧ valT kvs kk = some t ∧ Q t M2
   | _ => False)
 | _ => False)
theorem h_dgz {o : Expr} {es : List Expr} {x1} {p1 : Pos} {td : TE3} {t : TA3} {pos : Pos} (hu : X.A.units + 64 < cLine) (ho : HE X o td) (ha : HA X es t) (hs : NoSl (.Tuple es x1 p1) := by intro _ _; rfl) : HE X (.Subscript o (.Tuple es x1 p1) pos) (tDGZ td t) := fun ρ M Q h =>
 (pe_dget (by lia) (ho.d (ρ := ρ)) (pe_tup (ha.d (ρ := ρ))) hs).imp fun σ H Q2 ⟨hr, hh, en⟩ => ⟨M, _, h, hr, hh, fun x v M1 H1 k1 h1 r1 q1 => ⟨M1, _, q1, hr.kp k1, h1, fun ks vs M2 H2 k2 h2 r2 q2 => by
   obtain ⟨hz, q2⟩ := q2
   refine ⟨by rw [r2.length]; exact hz, fun b hb => ?_⟩
   cases x with
   | adr p =>
     cases r1
     dsimp only at q2
     split at q2
     · rename_i kvs e
       obtain ⟨kk, t, rfl, ev, q2⟩ := q2
       obtain rfl := rep_keys r2
       obtain ⟨ob, xs, g1, g2⟩ := h2 _ _ e
       have hv := g2.val kk
       rw [ev] at hv
       obtain ⟨u, e1, e2⟩ := hv
       have np : p ≠ b := fun z => by rw [← z, g1] at hb; cases hb
       exact ⟨_, u, rfl, .inr ⟨xs, kk, b, .inr ⟨ob, by rw [upd_ne np]; exact g1⟩, rfl, upd_same, e1.symm⟩, en _ _ M2 _ ((k1.trans k2).trans (Kp.new hb)) (h2.keep hb) (Rep.kp (Kp.new hb) _ _ e2) q2⟩
     · exact q2.elim
   | _ => exact q2.elim⟩⟩
end
end L2
namespace L2
open PySem PySem.Spec PyProof.Rows LM
noncomputable def mqB (n : Nat) : Bool := (permsL (range0 n)).all fun st => (fun m : List Int => (range0 n).all fun x => (fun y : Int => (decide (y ∈ range0 n) && decide (gI m y = y)) && decide (gI m (gI st x) = y)) (gI m x)) (mkF st n)
theorem mk_all5 : mqB 1 = true ∧ mqB 2 = true ∧ mqB 3 = true ∧ mqB 4 = true ∧ mqB 5 = true := by decide +kernel
theorem mk_all6 : mqB 6 = true := by decide +kernel
theorem mk_is {st : List Int} {n x : Int} (n1 : 1 ≤ n) (n6 : n ≤ 6) (h : IsP n st) (hx : x ∈ range0 n) : gI (mkF st n) x ∈ range0 n ∧ gI (mkF st n) (gI (mkF st n) x) = gI (mkF st n) x ∧ gI (mkF st n) (gI st x) = gI (mkF st n) x := by
 have key : mqB n.toNat = true := by
   obtain ⟨h1, h2, h3, h4, h5⟩ := mk_all5
   rcases (show n = 1 ∨ n = 2 ∨ n = 3 ∨ n = 4 ∨ n = 5 ∨ n = 6 by lia) with rfl | rfl | rfl | rfl | rfl | rfl
   · exact h1
   · exact h2
   · exact h3
   · exact h4
   · exact h5
   · exact mk_all6
 have e : ((n.toNat : Nat) : Int) = n := by lia
 unfold mqB at key
 rw [e] at key
 have k2 := List.all_eq_true.mp (List.all_eq_true.mp key st (mem_permsL h)) x hx
 obtain ⟨ab, c⟩ := (Bool.and_eq_true _ _).mp k2
 obtain ⟨a, b⟩ := (Bool.and_eq_true _ _).mp ab
 exact ⟨of_decide_eq_true a, of_decide_eq_true b, of_decide_eq_true c⟩
end L2
namespace L2
open PySem PySem.Spec PyProof.Rows LM
noncomputable def numF (ls : List (List Int)) : Nat → Int → Option Int
 | 0, _ => none
 | i + 1, x => if x ∈ ls.getD i [] then some (i : Int) else numF ls i x
theorem numF_is {ls : List (List Int)} {x : Int} {i : Nat} : ∀ k, i < k → (∀ j, j < k → (x ∈ ls.getD j [] ↔ j = i)) → numF ls k x = some (i : Int)
 | 0, h, _ => absurd h (Nat.not_lt_zero _)
 | k + 1, h, u => by
   show (if x ∈ ls.getD k [] then some (k : Int) else numF ls k x) = _
   by_cases c : k = i
   · rw [if_pos ((u k (Nat.lt_succ_self _)).mpr c), c]
   · rw [if_neg (fun z => c ((u k (Nat.lt_succ_self _)).mp z))]
     exact numF_is k (by lia) fun j hj => u j (by lia)
theorem pcs_nu {n : Int} {ws : List Int} (n1 : 1 ≤ n) (n6 : n ≤ 6) (hw : WordOK n ws) : (pcs (orderL n ws) n).length ≤ 6 ∧ (∀ l ∈ pcs (orderL n ws) n, l.length ≤ 6) ∧
   ∃ nu : Int → Nat, (∀ x ∈ range0 n, nu x < (pcs (orderL n ws) n).length ∧ numF (pcs (orderL n ws) n) (pcs (orderL n ws) n).length x = some (nu x : Int) ∧ ∀ i, i < (pcs (orderL n ws) n).length → (x ∈ (pcs (orderL n ws) n).getD i [] ↔ i = nu x)) ∧ ∀ x ∈ range0 n, nu (gI (standL n ws) x) = nu x := by
 rw [← lp_pcs n1 n6 hw]
 have hst := stand_perm n ws (by lia) hw
 generalize hL : lpF (standL n ws) n = ls
 unfold lpF at hL
 have hmk := fun x (hx : x ∈ range0 n) => mk_is n1 n6 hst hx
 generalize mkF (standL n ws) n = m at hL hmk
 generalize hR : ((range0 n).filter fun p => decide (gI m p = p)) = reps at hL
 have hrl : reps.length ≤ 6 := by
   rw [← hR]
   refine Nat.le_trans (List.length_filter_le _ _) ?_
   rw [range0_length]; lia
 have hnd : reps.Nodup := by rw [← hR]; exact List.Pairwise.filter _ (range0_nodup n)
 have hll : ls.length = reps.length := by rw [← hL, List.length_map]
 refine ⟨by rw [hll]; exact hrl, fun l hl => ?_, fun x => reps.idxOf (gI m x), fun x hx => ?_, fun x hx => by dsimp only; rw [(hmk x hx).2.2]⟩
 · rw [← hL] at hl
   obtain ⟨p, _, rfl⟩ := List.mem_map.mp hl
   refine Nat.le_trans (List.length_filter_le _ _) ?_
   rw [range0_length]; lia
 · obtain ⟨h1, h2, _⟩ := hmk x hx
   have hmem : gI m x ∈ reps := by rw [← hR]; exact List.mem_filter.mpr ⟨h1, decide_eq_true h2⟩
   have hlt : reps.idxOf (gI m x) < ls.length := by rw [hll]; exact List.idxOf_lt_length_of_mem hmem
   have hi : ∀ i, i < ls.length → (x ∈ ls.getD i [] ↔ i = reps.idxOf (gI m x)) := fun i hil => by
     have hil2 : i < reps.length := by rw [← hll]; exact hil
     have e : ls.getD i [] = (range0 n).filter fun q => decide (gI m q = reps[i]) := by
       rw [← hL, List.getD_eq_getElem?_getD, List.getElem?_map, List.getElem?_eq_getElem hil2]; rfl
     rw [e, List.mem_filter]
     constructor
     · rintro ⟨_, b⟩
       have b2 : gI m x = reps[i] := of_decide_eq_true b
       rw [b2]
       exact (hnd.idxOf_getElem i hil2).symm
     · intro z
       refine ⟨hx, decide_eq_true ?_⟩
       subst z
       exact (List.getElem_idxOf hil2).symm
   exact ⟨hlt, numF_is _ hlt hi, hi⟩
noncomputable def winT (ls : List (List Int)) (a b : Nat) (x : Int × Int × Int) : Int := if (x.1 ∈ ls.getD a [] ∧ x.2.1 ∈ ls.getD b []) ∨ (x.2.1 ∈ ls.getD a [] ∧ x.1 ∈ ls.getD b []) then x.2.2 else 0
noncomputable def winS (ls : List (List Int)) (a b : Nat) : List (Int × Int × Int) → Int
 | [] => 0
 | x :: r => winT ls a b x + winS ls a b r
theorem winS_snoc (ls : List (List Int)) (a b : Nat) (x : Int × Int × Int) : ∀ C, winS ls a b (C ++ [x]) = winS ls a b C + winT ls a b x
 | [] => by show winT ls a b x + 0 = 0 + winT ls a b x; lia
 | y :: C => by
   show winT ls a b y + winS ls a b (C ++ [x]) = (winT ls a b y + winS ls a b C) + winT ls a b x
   rw [winS_snoc ls a b x C]; lia
theorem winS_take {ls : List (List Int)} {a b : Nat} {C : List (Int × Int × Int)} {i : Nat} {x : Int × Int × Int} (h : C[i]? = some x) : winS ls a b (C.take (i + 1)) = winS ls a b (C.take i) + winT ls a b x := by
 rw [List.take_add_one, h]
 exact winS_snoc ls a b x _
noncomputable def prsI (m i : Nat) : List (Nat × Nat) := (List.range (m - (i + 1))).map fun k => (i, i + 1 + k)
noncomputable def prsU (m i : Nat) : List (Nat × Nat) := (List.range i).flatMap (prsI m)
noncomputable def prs (m : Nat) : List (Nat × Nat) := prsU m m
theorem prsU_succ (m i : Nat) : prsU m (i + 1) = prsU m i ++ prsI m i := by
 unfold prsU
 rw [List.range_succ, List.flatMap_append, List.flatMap_cons, List.flatMap_nil, List.append_nil]
theorem mem_prsU {m i a b : Nat} : (a, b) ∈ prsU m i ↔ a < i ∧ a < b ∧ b < m := by
 unfold prsU prsI
 rw [List.mem_flatMap]
 constructor
 · rintro ⟨c, hc, h⟩
   obtain ⟨k, hk, e⟩ := List.mem_map.mp h
   have h1 := List.mem_range.mp hc
   have h2 := List.mem_range.mp hk
   cases e
   exact ⟨h1, by lia, by lia⟩
 · rintro ⟨h1, h2, h3⟩
   exact ⟨a, List.mem_range.mpr h1, List.mem_map.mpr ⟨b - (a + 1), List.mem_range.mpr (by lia), by show (a, a + 1 + (b - (a + 1))) = (a, b); rw [show a + 1 + (b - (a + 1)) = b by lia]⟩⟩
theorem prsI_len (m i : Nat) : (prsI m i).length = m - (i + 1) := by unfold prsI; rw [List.length_map, List.length_range]
theorem prsU_len {m : Nat} (h : m ≤ 6) : ∀ i, i ≤ m → (prsU m i).length ≤ 6 * i
 | 0, _ => Nat.le_refl _
 | i + 1, hi => by
   rw [prsU_succ, List.length_append, prsI_len]
   have := prsU_len h i (by lia)
   lia
noncomputable def kk2 (p : Nat × Nat) : List Key := [.inl (p.1 : Int), .inl (p.2 : Int)]
theorem kk2_inj {p q : Nat × Nat} (h : kk2 p = kk2 q) : p = q := by
 unfold kk2 at h
 injection h with h1 h2
 injection h2 with h2 _
 injection h1 with h1
 injection h2 with h2
 exact Prod.ext (Int.ofNat_inj.mp h1) (Int.ofNat_inj.mp h2)
noncomputable def dKT (F : Nat → Nat → Int) (ps : List (Nat × Nat)) : List (List Key × T) := ps.map fun p => (kk2 p, T.int (F p.1 p.2))
theorem dKT_congr {F G : Nat → Nat → Int} {ps : List (Nat × Nat)} (h : ∀ a b, (a, b) ∈ ps → F a b = G a b) : dKT F ps = dKT G ps := by
 unfold dKT
 exact List.map_congr_left fun p hp => by rw [h p.1 p.2 hp]
theorem valT_dKT {F : Nat → Nat → Int} {p : Nat × Nat} : ∀ {ps : List (Nat × Nat)}, p ∈ ps → valT (dKT F ps) (kk2 p) = some (.int (F p.1 p.2))
 | q :: ps, h => by
   show valT ((kk2 q, T.int (F q.1 q.2)) :: dKT F ps) (kk2 p) = _
   rw [valT_cons]
   by_cases c : q = p
   · rw [if_pos (by rw [c]), c]
   · rw [if_neg (fun z => c (kk2_inj z))]
     exact valT_dKT ((List.mem_cons.mp h).resolve_left fun z => c z.symm)
theorem valT_dKT_none {F : Nat → Nat → Int} {p : Nat × Nat} : ∀ {ps : List (Nat × Nat)}, p ∉ ps → valT (dKT F ps) (kk2 p) = none
 | [], _ => rfl
 | q :: ps, h => by
   show valT ((kk2 q, T.int (F q.1 q.2)) :: dKT F ps) (kk2 p) = _
   rw [valT_cons, if_neg (fun z => h (by rw [kk2_inj z]; exact .head _))]
   exact valT_dKT_none fun z => h (.tail _ z)
theorem putT_old {F : Nat → Nat → Int} {p : Nat × Nat} {v : Int} {ps : List (Nat × Nat)} (h : p ∈ ps) : putT (dKT F ps) (kk2 p) (.int v) = dKT (fun a b => if (a, b) = p then v else F a b) ps := by
 unfold putT
 rw [valT_any, valT_dKT h]
 rw [if_pos (show (some (T.int (F p.1 p.2))).isSome = true from rfl)]
 unfold dKT
 rw [List.map_map]
 refine List.map_congr_left fun q hq => ?_
 show (if kk2 q = kk2 p then (kk2 q, T.int v) else (kk2 q, T.int (F q.1 q.2))) = (kk2 q, T.int (if (q.1, q.2) = p then v else F q.1 q.2))
 by_cases c : q = p
 · rw [if_pos (by rw [c]), if_pos (show (q.1, q.2) = p from c)]
 · rw [if_neg (fun z => c (kk2_inj z)), if_neg (show ¬ (q.1, q.2) = p from c)]
theorem putT_new {p : Nat × Nat} {ps : List (Nat × Nat)} (h : p ∉ ps) : putT (dKT (fun _ _ => 0) ps) (kk2 p) (.int 0) = dKT (fun _ _ => 0) (ps ++ [p]) := by
 unfold putT
 rw [valT_any, valT_dKT_none h, if_neg (by intro z; cases z)]
 unfold dKT
 rw [List.map_append]; rfl
noncomputable def windL (n : Int) (ws : List Int) (C : List (Int × Int × Int)) : List (Int × Int × Int) := (prs (pcs (orderL n ws) n).length).map fun p => ((p.1 : Int), (p.2 : Int), winS (pcs (orderL n ws) n) p.1 p.2 C / 2)
end L2
namespace L2
open PySem PySem.Spec PyProof.Rows LM
section
variable {X : Cx}
end
end L2
namespace L2
open PySem PySem.Spec PyProof.Rows LM
theorem bt_tup3 {K : PySem.W.Frag} {ix : List (Option Nat)} {i j k : Nat} (h : ix[i]? = some none := by rfl) (h' : ix[j]? = some none := by rfl) (h'' : ix[k]? = some none := by rfl) : BTg K ix (gTup K 3 (gCons (gName i) (gCons (gName j) (gCons (gName k) gNil)))) (gTup3 3 (gCons3 (gName3 i) (gCons3 (gName3 j) (gCons3 (gName3 k) gNil3)))) := by
 refine ⟨own_tup (owns_cons gmono_name (own_name h) (owns_cons gmono_name (own_name h') (owns_cons gmono_name (own_name h'') owns_nil))), fun t v ρ M σ H Q3 Q2 r hr hh q en => ?_⟩
 unfold gTup3 at q
 split at q
 · rename_i ts
   obtain ⟨a, xs, rfl, g1, g2⟩ := inv_tup r
   obtain ⟨hl, q⟩ := q
   match ts, hl, g2, q with
   | [x, y, z], _, g2, q =>
     unfold Reps at g2
     obtain ⟨v1, w1, rfl, r1, g2⟩ := g2
     obtain ⟨v2, v3, rfl, r2, r3⟩ := reps2 g2
     refine ⟨a, _, rfl, g1, rfl, v1, [v2, v3], rfl, v2, [v3], rfl, v3, [], rfl, rfl, ?_⟩
     exact en _ M _ H Kp.refl (((hr.set i r1).set j r2).set k r3) hh q.2
 · exact q.elim
noncomputable def cntB (lab : Int → Nat) (b : Nat) : List Int → Nat
 | [] => 0
 | x :: r => (if lab x = b then 1 else 0) + cntB lab b r
noncomputable def cntP (lab : Int → Nat) (a b : Nat) : List Int → Nat
 | [] => 0
 | x :: r => (if lab x = a then cntB lab b r else 0) + cntP lab a b r
theorem cntB_swap (lab : Int → Nat) (b : Nat) (x y : Int) (B : List Int) : ∀ A : List Int, cntB lab b (A ++ y :: x :: B) = cntB lab b (A ++ x :: y :: B)
 | [] => by
   show (if lab y = b then 1 else 0) + ((if lab x = b then 1 else 0) + cntB lab b B) = (if lab x = b then 1 else 0) + ((if lab y = b then 1 else 0) + cntB lab b B)
   lia
 | z :: A => by
   show (if lab z = b then 1 else 0) + cntB lab b (A ++ y :: x :: B) = (if lab z = b then 1 else 0) + cntB lab b (A ++ x :: y :: B)
   rw [cntB_swap lab b x y B A]
theorem cntP_swap (lab : Int → Nat) (a b : Nat) (x y : Int) (B : List Int) : ∀ A : List Int, cntP lab a b (A ++ y :: x :: B) + (if lab x = a ∧ lab y = b then 1 else 0) = cntP lab a b (A ++ x :: y :: B) + (if lab y = a ∧ lab x = b then 1 else 0)
 | [] => by
   show (if lab y = a then (if lab x = b then 1 else 0) + cntB lab b B else 0) + ((if lab x = a then cntB lab b B else 0) + cntP lab a b B) + (if lab x = a ∧ lab y = b then 1 else 0) = (if lab x = a then (if lab y = b then 1 else 0) + cntB lab b B else 0) + ((if lab y = a then cntB lab b B else 0) + cntP lab a b B) + (if lab y = a ∧ lab x = b then 1 else 0)
   by_cases h1 : lab x = a <;> by_cases h2 : lab y = a <;> by_cases h3 : lab x = b <;> by_cases h4 : lab y = b <;> simp only [h1, h2, h3, h4, if_true, if_false, true_and, false_and, and_true, and_false] <;> lia
 | z :: A => by
   have ih := cntP_swap lab a b x y B A
   show (if lab z = a then cntB lab b (A ++ y :: x :: B) else 0) + cntP lab a b (A ++ y :: x :: B) + _ = (if lab z = a then cntB lab b (A ++ x :: y :: B) else 0) + cntP lab a b (A ++ x :: y :: B) + _
   rw [cntB_swap lab b x y B A]
   lia
theorem cntB_map {lab : Int → Nat} {b : Nat} : ∀ {l m : List Int}, l.map lab = m.map lab → cntB lab b l = cntB lab b m
 | [], [], _ => rfl
 | [], y :: m, h => by cases h
 | x :: l, [], h => by cases h
 | x :: l, y :: m, h => by
   rw [List.map_cons, List.map_cons] at h
   injection h with h1 h2
   show (if lab x = b then 1 else 0) + cntB lab b l = (if lab y = b then 1 else 0) + cntB lab b m
   rw [h1, cntB_map h2]
theorem cntP_map {lab : Int → Nat} {a b : Nat} : ∀ {l m : List Int}, l.map lab = m.map lab → cntP lab a b l = cntP lab a b m
 | [], [], _ => rfl
 | [], y :: m, h => by cases h
 | x :: l, [], h => by cases h
 | x :: l, y :: m, h => by
   rw [List.map_cons, List.map_cons] at h
   injection h with h1 h2
   show (if lab x = a then cntB lab b l else 0) + cntP lab a b l = (if lab y = a then cntB lab b m else 0) + cntP lab a b m
   rw [h1, cntB_map h2, cntP_map h2]
noncomputable def sgI (l : Int) : Int := if l < 0 then -1 else 1
noncomputable def crL : List Int → List Int → List (Int × Int × Int)
 | _, [] => []
 | st, l :: w => (gI st ((l.natAbs : Int) - 1), gI st (l.natAbs : Int), sgI l) :: crL (swapN st (l.natAbs - 1)) w
theorem split_at2 {st : List Int} {k : Nat} (h : k + 1 < st.length) : ∃ A x y B, st = A ++ x :: y :: B ∧ A.length = k := by
 refine ⟨st.take k, st[k], st[k + 1], st.drop (k + 2), ?_, by rw [List.length_take]; lia⟩
 have e1 : st.drop k = st[k] :: st.drop (k + 1) := List.drop_eq_getElem_cons (by lia)
 have e2 : st.drop (k + 1) = st[k + 1] :: st.drop (k + 2) := List.drop_eq_getElem_cons (by lia)
 rw [← e2, ← e1, List.take_append_drop]
theorem wind_par {ls : List (List Int)} {lab : Int → Nat} {n : Int} {a b : Nat} (ha : a < ls.length) (hb : b < ls.length) (hab : a ≠ b) (hl : ∀ x ∈ range0 n, ∀ i, i < ls.length → (x ∈ ls.getD i [] ↔ i = lab x)) :
   ∀ (ws st : List Int), IsP n st → WordOK n ws → 0 ≤ n → ((cntP lab a b (ws.foldl swapL st) : Int) + winS ls a b (crL st ws)) % 2 = (cntP lab a b st : Int) % 2
 | [], st, _, _, _ => by
   have e : crL st [] = [] := by cases st <;> rfl
   rw [e]
   show ((cntP lab a b st : Int) + 0) % 2 = _
   rw [Int.add_zero]
 | l :: w, st, hst, hw, h0 => by
   obtain ⟨z1, z2⟩ := hw l (.head _)
   have hlen : st.length = n.toNat := by rw [hst.length_eq, range0_length]
   obtain ⟨k, hk⟩ : ∃ k : Nat, l.natAbs = k + 1 := ⟨l.natAbs - 1, by lia⟩
   obtain ⟨A, x, y, B, e, eA⟩ := split_at2 (st := st) (k := k) (by lia)
   have es : swapL st l = A ++ y :: x :: B := by
     rw [← swapN_swapL st l (by lia), hk, e]
     exact swapN_cons eA
   have hP : IsP n (swapL st l) := (swapL_perm st l (by unfold LetOK; rw [hlen]; lia)).trans hst
   have ih := wind_par ha hb hab hl w (swapL st l) hP (fun z hz => hw z (.tail _ hz)) h0
   have ec : crL st (l :: w) = (x, y, sgI l) :: crL (swapL st l) w := by
     show (gI st ((l.natAbs : Int) - 1), gI st (l.natAbs : Int), sgI l) :: crL (swapN st (l.natAbs - 1)) w = _
     rw [swapN_swapL st l (by lia), hk]
     congr 1
     have g1 : gI st (((k + 1 : Nat) : Int) - 1) = x := by
       rw [show ((k + 1 : Nat) : Int) - 1 = (k : Int) by lia, e]
       exact gI_nat (by lia) (by lia)
     have g2 : gI st ((k + 1 : Nat) : Int) = y := by
       rw [e]
       exact gI_nat1 (a := (k : Int)) (by lia) (by lia)
     rw [g1, g2]
   rw [ec]
   show ((cntP lab a b (w.foldl swapL (swapL st l)) : Int) + (winT ls a b (x, y, sgI l) + winS ls a b (crL (swapL st l) w))) % 2 = _
   have hx : x ∈ range0 n := hst.mem_iff.mp (by rw [e]; simp)
   have hy : y ∈ range0 n := hst.mem_iff.mp (by rw [e]; simp)
   have q := cntP_swap lab a b x y B A
   rw [← es, ← e] at q
   have hT : winT ls a b (x, y, sgI l) = if (lab x = a ∧ lab y = b) ∨ (lab y = a ∧ lab x = b) then sgI l else 0 := by
     unfold winT
     dsimp only
     refine ite_congr (propext ?_) (fun _ => rfl) (fun _ => rfl)
     rw [hl x hx a ha, hl y hy b hb, hl y hy a ha, hl x hx b hb]
     constructor
     · rintro (⟨p, q⟩ | ⟨p, q⟩)
       · exact .inl ⟨p.symm, q.symm⟩
       · exact .inr ⟨p.symm, q.symm⟩
     · rintro (⟨p, q⟩ | ⟨p, q⟩)
       · exact .inl ⟨p.symm, q.symm⟩
       · exact .inr ⟨p.symm, q.symm⟩
   have hg : sgI l = 1 ∨ sgI l = -1 := by unfold sgI; split <;> simp
   rw [hT]
   by_cases c1 : lab x = a ∧ lab y = b
   · have c2 : ¬ (lab y = a ∧ lab x = b) := fun z => hab (by rw [← z.1, c1.2])
     rw [if_pos c1, if_neg c2] at q
     rw [if_pos (.inl c1)]
     lia
   · by_cases c2 : lab y = a ∧ lab x = b
     · rw [if_neg c1, if_pos c2] at q
       rw [if_pos (.inr c2)]
       lia
     · rw [if_neg c1, if_neg c2] at q
       rw [if_neg (fun z => z.elim c1 c2)]
       lia
theorem crL_neg : ∀ (ws st : List Int), (∀ l ∈ ws, l ≠ 0) → crL st (ws.map fun l => -l) = (crL st ws).map fun x => (x.1, x.2.1, -x.2.2)
 | [], st, _ => by cases st <;> rfl
 | l :: w, st, h => by
   have h0 := h l (.head _)
   show (gI st (((-l).natAbs : Int) - 1), gI st ((-l).natAbs : Int), sgI (-l)) :: crL (swapN st ((-l).natAbs - 1)) (w.map fun l => -l) = (gI st ((l.natAbs : Int) - 1), gI st (l.natAbs : Int), -sgI l) :: (crL (swapN st (l.natAbs - 1)) w).map _
   rw [Int.natAbs_neg, crL_neg w _ (fun z hz => h z (.tail _ hz))]
   have e : sgI (-l) = -sgI l := by unfold sgI; split <;> split <;> lia
   rw [e]
theorem winS_neg (ls : List (List Int)) (a b : Nat) : ∀ C : List (Int × Int × Int), winS ls a b (C.map fun x => (x.1, x.2.1, -x.2.2)) = -winS ls a b C
 | [] => rfl
 | x :: C => by
   show winT ls a b (x.1, x.2.1, -x.2.2) + winS ls a b (C.map fun x => (x.1, x.2.1, -x.2.2)) = -(winT ls a b x + winS ls a b C)
   rw [winS_neg ls a b C]
   have e : winT ls a b (x.1, x.2.1, -x.2.2) = -winT ls a b x := by
     unfold winT
     dsimp only
     split <;> lia
   rw [e]; lia
theorem folL_neg : ∀ (w : List Int) (p : Int), folL (w.map fun l => -l) p = folL w p
 | [], p => rfl
 | l :: w, p => by
   show folL (w.map fun l => -l) (followL p (-l)) = folL w (followL p l)
   rw [folL_neg w]
   unfold followL
   rw [Int.natAbs_neg]
end L2
namespace L2
open PySem PySem.Spec PyProof.Rows LM
noncomputable def cjO (n l : Int) (o : List Int) : List Int := (range0 n).map fun s => sw l (gI o (sw l s))
noncomputable def cjB (n : Nat) : Bool := (permsL (range0 n)).all fun o => (List.range n).all fun l => decide (l = 0) || decide ((pcs (cjO n l o) n).length = (pcs o n).length)
theorem cj_all : cjB 1 = true ∧ cjB 2 = true ∧ cjB 3 = true ∧ cjB 4 = true ∧ cjB 5 = true := by decide +kernel
theorem cj_is {o : List Int} {n : Int} {l : Nat} (n1 : 1 ≤ n) (n5 : n ≤ 5) (h : IsP n o) (h1 : 1 ≤ l) (h2 : (l : Int) < n) : (pcs (cjO n l o) n).length = (pcs o n).length := by
 have key : cjB n.toNat = true := by
   obtain ⟨k1, k2, k3, k4, k5⟩ := cj_all
   rcases (show n = 1 ∨ n = 2 ∨ n = 3 ∨ n = 4 ∨ n = 5 by lia) with rfl | rfl | rfl | rfl | rfl
   · exact k1
   · exact k2
   · exact k3
   · exact k4
   · exact k5
 have e : ((n.toNat : Nat) : Int) = n := by lia
 unfold cjB at key
 rw [e] at key
 have k2 := List.all_eq_true.mp (List.all_eq_true.mp key o (mem_permsL h)) l (List.mem_range.mpr (by lia))
 rcases (Bool.or_eq_true _ _).mp k2 with z | z
 · exact absurd (of_decide_eq_true z) (by lia)
 · exact of_decide_eq_true z
theorem ord_isP2 {n : Int} {w : List Int} (hw : WordOK n w) : IsP n (orderL n w) := by
 refine perm_of_sub _ _ ?_ (fun x hx => ?_) (by rw [orderL_length, range0_length]; exact Nat.le_refl _)
 · rw [orderL_map n w hw]
   refine List.pairwise_map.mpr ((range0_nodup n).imp_of_mem fun {a b} ha hb ne z => ne ?_)
   have z2 := folL_contr w a
   rw [z, folL_contr w b] at z2
   exact z2.symm
 · have := orderL_mem hw hx
   exact range0_mem this.1 this.2
theorem followL_sw (p l : Int) (h : l ≠ 0) : followL p l = sw l.natAbs p := by
 unfold followL sw
 split <;> split <;> (try split) <;> lia
theorem ord_round {n l : Int} {w : List Int} (hw : WordOK n (l :: w)) : orderL n (w ++ [l]) = cjO n l.natAbs (orderL n (l :: w)) := by
 obtain ⟨z1, z2⟩ := hw l (.head _)
 have hw2 : WordOK n (w ++ [l]) := fun x hx => hw x (by rcases List.mem_append.mp hx with z | z; exact .tail _ z; rw [List.mem_singleton.mp z]; exact .head _)
 rw [orderL_map n _ hw2]
 unfold cjO
 refine List.map_congr_left fun s hs => ?_
 have hs2 := mem_range0 hs
 have hb := sw_rng (n := n) (l := (l.natAbs : Int)) (k := s) (by lia) (by lia) hs2.1 hs2.2
 have e : gI (orderL n (l :: w)) (sw l.natAbs s) = folL (l :: w) (sw l.natAbs s) := by
   show (orderL n (l :: w)).getD (sw l.natAbs s).toNat 0 = _
   exact orderL_get n _ hw _ hb.1 hb.2
 rw [e, folL_append]
 show followL (folL w s) l = sw l.natAbs (folL w (followL (sw l.natAbs s) l))
 rw [followL_sw _ _ (by lia), followL_sw _ _ (by lia), sw_sw]
theorem pcs_round {n : Int} (n1 : 1 ≤ n) (n5 : n ≤ 5) : ∀ (w v : List Int), WordOK n (w ++ v) → (pcs (orderL n (w ++ v)) n).length = (pcs (orderL n (v ++ w)) n).length
 | [], v, _ => by rw [List.append_nil]; rfl
 | l :: w, v, hw => by
   obtain ⟨z1, z2⟩ := hw l (.head _)
   have hw2 : WordOK n (w ++ (v ++ [l])) := fun x hx => hw x (by
     rw [← List.append_assoc] at hx
     rcases List.mem_append.mp hx with z | z
     · exact .tail _ z
     · rw [List.mem_singleton.mp z]; exact .head _)
   have ih := pcs_round n1 n5 w (v ++ [l]) hw2
   have e := ord_round (n := n) (l := l) (w := w ++ v) hw
   rw [List.append_assoc] at e
   rw [List.append_assoc] at ih
   rw [show v ++ l :: w = v ++ ([l] ++ w) from rfl, ← ih, e]
   exact (cj_is n1 n5 (ord_isP2 hw) (by lia) (by lia)).symm
theorem wind_even {n : Int} {ws : List Int} (n1 : 1 ≤ n) (n6 : n ≤ 6) (hw : WordOK n ws) {a b : Nat} (hm : (a, b) ∈ prs (pcs (orderL n ws) n).length) : winS (pcs (orderL n ws) n) a b (crL (range0 n) ws) % 2 = 0 := by
 obtain ⟨_, _, nu, hnu, hst⟩ := pcs_nu n1 n6 hw
 obtain ⟨h1, h2, h3⟩ := mem_prsU.mp hm
 have q := wind_par (ls := pcs (orderL n ws) n) (lab := nu) (n := n) (a := a) (b := b) (by lia) h3 (by lia) (fun x hx => (hnu x hx).2.2) ws (range0 n) (List.Perm.refl _) hw (by lia)
 have e : (standL n ws).map nu = (range0 n).map nu := by
   have hl : (standL n ws).length = n.toNat := by rw [(stand_perm n ws (by lia) hw).length_eq, range0_length]
   refine List.ext_getElem (by rw [List.length_map, List.length_map, hl, range0_length]) fun i h1 h2 => ?_
   rw [List.getElem_map, List.getElem_map]
   have hi : i < (range0 n).length := by rw [List.length_map] at h2; exact h2
   have hi2 : i < (standL n ws).length := by rw [List.length_map] at h1; exact h1
   have ei : (range0 n)[i] = (i : Int) := by rw [← gI_get hi]; exact gI_range0 (by lia) (by rw [range0_length] at hi; lia)
   have g := hst (i : Int) (by rw [← ei]; exact List.getElem_mem hi)
   rw [gI_get hi2] at g
   rw [g, ei]
 have e2 := cntP_map (a := a) (b := b) e
 have e3 : ws.foldl swapL (range0 n) = standL n ws := rfl
 rw [e3, e2] at q
 lia
theorem wind_neg {n : Int} {ws : List Int} (n1 : 1 ≤ n) (n6 : n ≤ 6) (hw : WordOK n ws) : windL n (ws.map fun l => -l) (crL (range0 n) (ws.map fun l => -l)) = (windL n ws (crL (range0 n) ws)).map fun x => (x.1, x.2.1, 0 - x.2.2) := by
 have hw2 : WordOK n (ws.map fun l => -l) := fun x hx => by
   obtain ⟨y, hy, rfl⟩ := List.mem_map.mp hx
   obtain ⟨z1, z2⟩ := hw y hy
   exact ⟨by rw [Int.natAbs_neg]; exact z1, by rw [Int.natAbs_neg]; exact z2⟩
 have hnz : ∀ l ∈ ws, l ≠ 0 := fun l hl => by
   obtain ⟨z1, z2⟩ := hw l hl
   lia
 have eo : orderL n (ws.map fun l => -l) = orderL n ws := by
   rw [orderL_map n _ hw2, orderL_map n _ hw]
   exact List.map_congr_left fun s _ => folL_neg ws s
 unfold windL
 rw [eo, crL_neg ws _ hnz, List.map_map]
 refine List.map_congr_left fun p hp => ?_
 have h2 := wind_even n1 n6 hw (a := p.1) (b := p.2) hp
 show ((p.1 : Int), (p.2 : Int), winS _ p.1 p.2 ((crL (range0 n) ws).map fun x => (x.1, x.2.1, -x.2.2)) / 2) = ((p.1 : Int), (p.2 : Int), 0 - winS _ p.1 p.2 (crL (range0 n) ws) / 2)
 rw [winS_neg]
 congr 2
 lia
end L2
namespace L2
open PySem PySem.Spec PyProof.Rows LM
local macro_rules | `(tactic| walk_at "rd") => `(tactic| (try simp only [ rSum3, rIn3, tCanCall, rInD, rMax3, rSorted3, rMin3, tRet3, tChain3, tCB3, tCons3, tNil3, tVar3, tK, tOp3, tUn3, tSeq3, tSet3, tNext3, tIfS3, tDrop3, tAsg3, tTest3, tTru3, tNot3, tAnd3, tOr3, tOrV3, tComp3, tTup3, tLst3, tCall3, tLM3, tTRng1, tLMS, rIdxS, isSeq, tDicE, tDGK, sDPK, sDPT, tYes3,
 gName3, gCons3, gNil3, gTup3, gSub3, strsT_map, tSl3, tNo3, tPt3, iSeq3, iKeyT, tDGZ, iEnum, iEnumT, iRng1_3, iRng2_3, iRng3_3, rAdd3, rSub3, rMul3, rDiv3, rMod3, rPow3, rInt, rNeg3, rIx3, rLen3, rAbs3, rTuple3, rInt3, rAll3, rApp3, rIndex3, rLt3, rLe3, rGt3, rGe3, rCmp3, rEq3, rNe3, rEqv, sAugDT, truT, isLst,
 start3_cons, start3_none, start3_nil, pick3_none, pick3_some, pick3_nil, join_some, List.getElem?_cons_zero, List.getElem?_cons_succ, List.set_cons_zero, List.set_cons_succ, List.length_cons, List.length_nil, List.map_nil, List.isEmpty_cons, List.isEmpty_nil, updM_same, updM_updM, atI_0, atI_1, atI_2, ixN_0, bools_map, intsT_map,
 pureT_int, pureT_bl, pureT_tup, pureTs_cons, pureTs_nil, pureTs_ints, depT_int, depT_bl, depT_tup, depTs_cons, depTs_nil, depTs_ints, eqT_tup, eqT_int, eqTs_cons, eqTs_nil, eqTs_ints, id, Bool.not_true, Bool.not_false, Bool.and_true, Bool.true_and, Bool.or_false, Bool.false_or,
 decide_eq_true_eq, Bool.not_eq_true', decide_eq_false_iff_not, Bool.false_eq_true, ↓reduceIte, if_true, if_false, true_and, and_true, and_self, Nat.zero_le, not_true_eq_false, not_false_eq_true, List.length_map, List.length_append, List.length_singleton]))
noncomputable abbrev top (i : Nat) : Stmt := PySem.Challenge.pw_loopwright_k52_whole_one_behind_the_othe.main.body.getD i (.Pass ⟨0, 0, 0, 0⟩)
noncomputable abbrev s_is_letter : Stmt := top 8
noncomputable abbrev s_is_word : Stmt := top 9
noncomputable abbrev s_is_plait : Stmt := top 10
noncomputable abbrev s_looked : Stmt := top 11
noncomputable abbrev s_looked_both : Stmt := top 12
noncomputable abbrev s_exchanged : Stmt := top 13
noncomputable abbrev s_places_in : Stmt := top 14
noncomputable abbrev s_behind : Stmt := top 15
noncomputable abbrev s_mirrored : Stmt := top 16
noncomputable abbrev s_flipped_letter : Stmt := top 17
noncomputable abbrev s_flipped : Stmt := top 18
noncomputable abbrev s_order_of : Stmt := top 19
noncomputable abbrev s_looked_word : Stmt := top 22
noncomputable abbrev s_can_far : Stmt := top 23
noncomputable abbrev s_can_three : Stmt := top 24
noncomputable abbrev s_can_out : Stmt := top 25
noncomputable abbrev s_signed : Stmt := top 27
noncomputable abbrev s_with_three : Stmt := top 28
noncomputable abbrev s_with_in : Stmt := top 29
noncomputable abbrev s_done : Stmt := top 30
noncomputable abbrev s_stepped : Stmt := top 31
noncomputable abbrev s_piece_from : Stmt := top 33
noncomputable abbrev s_pieces : Stmt := top 34
noncomputable abbrev s_sign_of : Stmt := top 35
noncomputable abbrev s_turns : Stmt := top 36
noncomputable abbrev s_crossings : Stmt := top 37
noncomputable abbrev s_piece_numbers : Stmt := top 38
noncomputable abbrev s_windings : Stmt := top 39
noncomputable abbrev s_with_round : Stmt := top 40
noncomputable abbrev s_with_back : Stmt := top 41
noncomputable abbrev s_with_less : Stmt := top 42
noncomputable abbrev s_with_more : Stmt := top 43
noncomputable abbrev s_with_step : Stmt := top 44
noncomputable abbrev s_moved : Stmt := top 45
noncomputable abbrev s_moved_all : Stmt := top 46
noncomputable abbrev s__law_state : Stmt := top 48
noncomputable abbrev s__law_take : Stmt := top 49
noncomputable abbrev s__law_letter : Stmt := top 50
noncomputable abbrev s__law_plait : Stmt := top 51
noncomputable abbrev s_law : Stmt := top 52
theorem sc_is_letter : FnScope ["strands", "letter"] ["strands", "letter"] (defScope s_is_letter) := ⟨rfl, rfl, rfl, by decide +kernel, rfl, by decide +kernel, by decide +kernel⟩
theorem sc_is_word : FnScope ["strands", "word", "most"] ["strands", "word", "most"] (defScope s_is_word) := ⟨rfl, rfl, rfl, by decide +kernel, rfl, by decide +kernel, by decide +kernel⟩
theorem sc_is_plait : FnScope ["plait"] ["plait"] (defScope s_is_plait) := ⟨rfl, rfl, rfl, by decide +kernel, rfl, by decide +kernel, by decide +kernel⟩
theorem sc_looked : FnScope ["plait"] ["plait"] (defScope s_looked) := ⟨rfl, rfl, rfl, by decide +kernel, rfl, by decide +kernel, by decide +kernel⟩
theorem sc_looked_both : FnScope ["one", "other", "letters"] ["one", "other"] (defScope s_looked_both) := ⟨rfl, rfl, rfl, by decide +kernel, rfl, by decide +kernel, by decide +kernel⟩
theorem sc_exchanged : FnScope ["row", "at"] ["row", "at"] (defScope s_exchanged) := ⟨rfl, rfl, rfl, by decide +kernel, rfl, by decide +kernel, by decide +kernel⟩
theorem sc_places_in : FnScope ["order"] ["order"] (defScope s_places_in) := ⟨rfl, rfl, rfl, by decide +kernel, rfl, by decide +kernel, by decide +kernel⟩
theorem sc_behind : FnScope ["one", "other"] ["one", "other"] (defScope s_behind) := ⟨rfl, rfl, rfl, by decide +kernel, rfl, by decide +kernel, by decide +kernel⟩
theorem sc_mirrored : FnScope ["plait"] ["plait"] (defScope s_mirrored) := ⟨rfl, rfl, rfl, by decide +kernel, rfl, by decide +kernel, by decide +kernel⟩
theorem sc_flipped_letter : FnScope ["strands", "letter"] ["strands", "letter"] (defScope s_flipped_letter) := ⟨rfl, rfl, rfl, by decide +kernel, rfl, by decide +kernel, by decide +kernel⟩
theorem sc_flipped : FnScope ["plait", "strands"] ["plait"] (defScope s_flipped) := ⟨rfl, rfl, rfl, by decide +kernel, rfl, by decide +kernel, by decide +kernel⟩
theorem sc_order_of : FnScope ["plait", "standing", "letter"] ["plait"] (defScope s_order_of) := ⟨rfl, rfl, rfl, by decide +kernel, rfl, by decide +kernel, by decide +kernel⟩
theorem sc_looked_word : FnScope ["strands", "word"] ["strands", "word"] (defScope s_looked_word) := ⟨rfl, rfl, rfl, by decide +kernel, rfl, by decide +kernel, by decide +kernel⟩
theorem sc_can_far : FnScope ["word", "at"] ["word", "at"] (defScope s_can_far) := ⟨rfl, rfl, rfl, by decide +kernel, rfl, by decide +kernel, by decide +kernel⟩
theorem sc_can_three : FnScope ["word", "at", "p", "q", "r"] ["word", "at"] (defScope s_can_three) := ⟨rfl, rfl, rfl, by decide +kernel, rfl, by decide +kernel, by decide +kernel⟩
theorem sc_can_out : FnScope ["word", "at"] ["word", "at"] (defScope s_can_out) := ⟨rfl, rfl, rfl, by decide +kernel, rfl, by decide +kernel, by decide +kernel⟩
theorem sc_signed : FnScope ["number", "letter"] ["number", "letter"] (defScope s_signed) := ⟨rfl, rfl, rfl, by decide +kernel, rfl, by decide +kernel, by decide +kernel⟩
theorem sc_with_three : FnScope ["word", "at", "p", "q", "r"] ["word", "at"] (defScope s_with_three) := ⟨rfl, rfl, rfl, by decide +kernel, rfl, by decide +kernel, by decide +kernel⟩
theorem sc_with_in : FnScope ["strands", "word", "at", "letter"] ["strands", "word", "at", "letter"] (defScope s_with_in) := ⟨rfl, rfl, rfl, by decide +kernel, rfl, by decide +kernel, by decide +kernel⟩
theorem sc_done : FnScope ["strands", "word", "step", "at"] ["strands", "word", "step"] (defScope s_done) := ⟨rfl, rfl, rfl, by decide +kernel, rfl, by decide +kernel, by decide +kernel⟩
theorem sc_stepped : FnScope ["strands", "word", "step"] ["strands", "word", "step"] (defScope s_stepped) := ⟨rfl, rfl, rfl, by decide +kernel, rfl, by decide +kernel, by decide +kernel⟩
theorem sc_piece_from : FnScope ["order", "begin", "places", "at"] ["order", "begin"] (defScope s_piece_from) := ⟨rfl, rfl, rfl, by decide +kernel, rfl, by decide +kernel, by decide +kernel⟩
theorem sc_pieces : FnScope ["plait", "order", "found"] ["plait"] (defScope s_pieces) := ⟨rfl, rfl, rfl, by decide +kernel, rfl, by decide +kernel, by decide +kernel⟩
theorem sc_sign_of : FnScope ["letter"] ["letter"] (defScope s_sign_of) := ⟨rfl, rfl, rfl, by decide +kernel, rfl, by decide +kernel, by decide +kernel⟩
theorem sc_turns : FnScope ["plait"] ["plait"] (defScope s_turns) := ⟨rfl, rfl, rfl, by decide +kernel, rfl, by decide +kernel, by decide +kernel⟩
theorem sc_crossings : FnScope ["plait", "standing", "found", "letter", "at"] ["plait"] (defScope s_crossings) := ⟨rfl, rfl, rfl, by decide +kernel, rfl, by decide +kernel, by decide +kernel⟩
theorem sc_piece_numbers : FnScope ["parts", "numbers", "number", "places", "place"] ["parts"] (defScope s_piece_numbers) := ⟨rfl, rfl, rfl, by decide +kernel, rfl, by decide +kernel, by decide +kernel⟩
theorem sc_windings : FnScope ["plait", "parts", "sums", "one", "other", "numbers", "first", "second", "sign"] ["plait"] (defScope s_windings) := ⟨rfl, rfl, rfl, by decide +kernel, rfl, by decide +kernel, by decide +kernel⟩
theorem sc_with_round : FnScope ["plait"] ["plait"] (defScope s_with_round) := ⟨rfl, rfl, rfl, by decide +kernel, rfl, by decide +kernel, by decide +kernel⟩
theorem sc_with_back : FnScope ["plait"] ["plait"] (defScope s_with_back) := ⟨rfl, rfl, rfl, by decide +kernel, rfl, by decide +kernel, by decide +kernel⟩
theorem sc_with_less : FnScope ["plait", "greatest", "found"] ["plait"] (defScope s_with_less) := ⟨rfl, rfl, rfl, by decide +kernel, rfl, by decide +kernel, by decide +kernel⟩
theorem sc_with_more : FnScope ["plait", "sign", "strands"] ["plait", "sign"] (defScope s_with_more) := ⟨rfl, rfl, rfl, by decide +kernel, rfl, by decide +kernel, by decide +kernel⟩
theorem sc_with_step : FnScope ["plait", "step", "word"] ["plait", "step"] (defScope s_with_step) := ⟨rfl, rfl, rfl, by decide +kernel, rfl, by decide +kernel, by decide +kernel⟩
theorem sc_moved : FnScope ["plait", "move"] ["plait", "move"] (defScope s_moved) := ⟨rfl, rfl, rfl, by decide +kernel, rfl, by decide +kernel, by decide +kernel⟩
theorem sc_moved_all : FnScope ["plait", "moves", "move"] ["plait", "moves"] (defScope s_moved_all) := ⟨rfl, rfl, rfl, by decide +kernel, rfl, by decide +kernel, by decide +kernel⟩
theorem sc__law_state : FnScope ["script", "k", "cell"] ["script", "k"] (defScope s__law_state) := ⟨rfl, rfl, rfl, by decide +kernel, rfl, by decide +kernel, by decide +kernel⟩
theorem sc__law_take : FnScope ["state", "many", "found", "mixed"] ["state", "many"] (defScope s__law_take) := ⟨rfl, rfl, rfl, by decide +kernel, rfl, by decide +kernel, by decide +kernel⟩
theorem sc__law_letter : FnScope ["state", "strands", "number"] ["state", "strands"] (defScope s__law_letter) := ⟨rfl, rfl, rfl, by decide +kernel, rfl, by decide +kernel, by decide +kernel⟩
theorem sc__law_plait : FnScope ["state", "most", "longest", "strands", "word", "k"] ["state", "most", "longest"] (defScope s__law_plait) := ⟨rfl, rfl, rfl, by decide +kernel, rfl, by decide +kernel, by decide +kernel⟩
theorem sc_law : FnScope ["script", "state", "one", "word", "k", "other", "first", "second", "many"] ["script"] (defScope s_law) := ⟨rfl, rfl, rfl, by decide +kernel, rfl, by decide +kernel, by decide +kernel⟩
structure CanN (P : Program) (w : World) (K : PySem.W.Frag) (mg : Str → Option Value) (dC fC1 fC2 fC3 : Addr) : Prop where
 can : CanK K P w dC [("far", fC1), ("three", fC2), ("out", fC3)]
 mc : mg "CAN" = some (.ref dC)
 m1 : mg "can_far" = some (.ref fC1)
 m2 : mg "can_three" = some (.ref fC2)
 m3 : mg "can_out" = some (.ref fC3)
 kp : ∀ q ∈ ([("far", fC1), ("three", fC2), ("out", fC3)] : List (Str × Addr)), PySem.W.keepIn K (.ref q.2) = true
structure Zs (mg : Str → Option Value) : Prop where
 b_abs : mg "abs" = none
 b_all : mg "all" = none
 b_enumerate : mg "enumerate" = none
 b_int : mg "int" = none
 b_len : mg "len" = none
 b_max : mg "max" = none
 b_min : mg "min" = none
 b_range : mg "range" = none
 b_sorted : mg "sorted" = none
 b_sum : mg "sum" = none
 b_tuple : mg "tuple" = none
 c_MOST_LETTERS : ∃ tk, mg "MOST_LETTERS" = some (.int 16 tk)
 c_MOST_LETTERS_IN_STEPS : ∃ tk, mg "MOST_LETTERS_IN_STEPS" = some (.int 4000 tk)
 c_MOST_STRANDS : ∃ tk, mg "MOST_STRANDS" = some (.int 6 tk)
noncomputable def sp_is_letter : Sp3 := fun ts M Q => match ts with
 | [.int n, .int l] => Q (.bl (isLet n l)) M
 | _ => False
theorem ok_is_letter {P : Program} {w : World} {K : PySem.W.Frag} {mg : Str → Option Value} {base : Heap} {f : Addr} {fd : FuncData} {n : Nat}  (F : Fun K "is_letter" "is_letter" s_is_letter f fd) (hm : mg "is_letter" = some (.ref f)) (hb : Binds K fd ["strands", "letter"] []) (Z : Zs mg)  : Df P w K mg base (n + 1) "is_letter" ["strands", "letter"] sp_is_letter := by
 refine F.dfn hm hb sc_is_letter (by intro ts M Q h; unfold sp_is_letter at h; first | (split at h <;> first | rfl | exact h.elim) | (obtain ⟨_, _, _, _, _, rfl, _⟩ := h; rfl) | (obtain ⟨_, _, _, _, rfl, _⟩ := h; rfl) | (obtain ⟨_, _, _, rfl, _⟩ := h; rfl) | (obtain ⟨_, _, rfl, _⟩ := h; rfl) | (obtain ⟨_, rfl, _⟩ := h; rfl)) ⟨_, fun cdv A outer s H E hr => (ss_one (s_ret (h_chain op3_le op3_lt h_int (h_callB call3_abs Z.b_abs PyProof.Rows.boot_abs (a_cons (hv 1) a_nil)) (hv 0)))), fun ts M Q h => ?_⟩
 unfold sp_is_letter isLet at h
 split at h
 · rename_i n l
   walk_at "rd"
   refine ite2 (fun c => rt3_here ?_) (fun c => rt3_here ?_)
   · simpa [show 1 ≤ l.natAbs by lia] using h
   · simpa [show ¬ 1 ≤ l.natAbs by lia] using h
 · exact h.elim
noncomputable def sp_is_word : Sp3 := fun ts M Q => match ts with
 | [.int n, .tup w, .int k] => ∃ ws : List Int, w = ws.map .int ∧ ws.length < 10000 ∧ Q (.bl (isWd n ws k)) M
 | _ => False
theorem ok_is_word {P : Program} {w : World} {K : PySem.W.Frag} {mg : Str → Option Value} {base : Heap} {f : Addr} {fd : FuncData} {n : Nat}  (F : Fun K "is_word" "is_word" s_is_word f fd) (hm : mg "is_word" = some (.ref f)) (hb : Binds K fd ["strands", "word", "most"] []) (Z : Zs mg) (D_is_letter : Df P w K mg base n "is_letter" ["strands", "letter"] sp_is_letter) : Df P w K mg base (n + 1) "is_word" ["strands", "word", "most"] sp_is_word := by
 obtain ⟨tk_MOST_STRANDS, c_MOST_STRANDS⟩ := Z.c_MOST_STRANDS
 refine F.dfn hm hb sc_is_word (by intro ts M Q h; unfold sp_is_word at h; first | (split at h <;> first | rfl | exact h.elim) | (obtain ⟨_, _, _, _, _, rfl, _⟩ := h; rfl) | (obtain ⟨_, _, _, _, rfl, _⟩ := h; rfl) | (obtain ⟨_, _, _, rfl, _⟩ := h; rfl) | (obtain ⟨_, _, rfl, _⟩ := h; rfl) | (obtain ⟨_, rfl, _⟩ := h; rfl)) ⟨_, fun cdv A outer s H E hr => (ss_cons (s_if (HW.ht (w_or (h_not (h_tchain op3_le op3_le h_int (hv 0) (h_globI c_MOST_STRANDS))) (w_or1 (h_tcmp op3_gt (h_callB call3_len Z.b_len PySem.boot_len (a_cons (hv 1) a_nil)) (hv 2) (nomark _))))) (ss_one (s_ret h_bl)) ss_nil) (ss_one (s_ret (h_callB (call3_all rfl) Z.b_all PyProof.Rows.boot_all (a_cons (h_comp rfl (i_seq (hv 1)) (blk_scope (outer := defScope s_is_word) (N := ["strands", "word", "most"]) (N' := ["letter", "strands"]) (ix := [none, some 0]) (by decide +kernel) rfl rfl) bt_name (fun _ _ _ _ _ => pg_name (i := 0) (show List.Nodup (["letter", "strands"] : List Str) by decide +kernel) rfl (Or.inl rfl) (Or.inr rfl)) (fun _ _ _ _ _ => ts_nil) (fun _ _ _ _ _ => (h_call D_is_letter hr (a_cons (hv 1) (a_cons (hv 0) a_nil))))) a_nil))))), fun ts M Q h => ?_⟩
 unfold sp_is_word at h
 split at h
 · rename_i n w k
   obtain ⟨ws, rfl, hl, h⟩ := h
   unfold isWd at h
   walk_at "rd"
   refine ite2 (fun c1 => ite2 (fun c2 => ?_) fun c2 => ite2 (fun c3 => ?_) fun c3 => ?_) fun c1 => ?_
   · rw [decide_eq_false c2, Bool.and_false, Bool.false_and] at h
     exact rt3_here h
   · rw [decide_eq_false (show ¬ (ws.length : Int) ≤ k by lia), Bool.and_false, Bool.false_and] at h
     exact rt3_here h
   · rw [decide_eq_true c1, decide_eq_true (show n ≤ 6 by lia), decide_eq_true (show (ws.length : Int) ≤ k by lia)] at h
     refine ⟨fun i ys M' => ys = ((ws.take i).map (isLet n)).map T.bl ∧ M' = M, ⟨rfl, rfl⟩, fun _ _ _ _ => trivial, Nat.lt_of_le_of_lt (by lia : ws.length ≤ 10000) (by decide), ?_, ?_⟩
     · rintro i x ys M' hx ⟨rfl, rfl⟩
       obtain ⟨l, hl', rfl⟩ := get_map_int hx
       unfold sp_is_letter
       refine ⟨?_, rfl⟩
       rw [← take_succ_map (isLet n) hl', List.map_append]; rfl
     · rintro ys M' ⟨rfl, rfl⟩ p hp
       rw [List.take_length, bools_map]
       refine rt3_sub (M0 := M') ?_ (Sub.new hp)
       rw [List.all_map]
       exact h
   · rw [decide_eq_false c1, Bool.false_and, Bool.false_and, Bool.false_and] at h
     exact rt3_here h
 · exact h.elim
noncomputable def sp_is_plait : Sp3 := fun ts M Q => match ts with
 | [.tup [.int n, .tup w]] => ∃ ws : List Int, w = ws.map .int ∧ ws.length < 10000 ∧ Q (.bl (isPl n ws)) M
 | _ => False
theorem ok_is_plait {P : Program} {w : World} {K : PySem.W.Frag} {mg : Str → Option Value} {base : Heap} {f : Addr} {fd : FuncData} {n : Nat}  (F : Fun K "is_plait" "is_plait" s_is_plait f fd) (hm : mg "is_plait" = some (.ref f)) (hb : Binds K fd ["plait"] []) (Z : Zs mg) (D_is_word : Df P w K mg base n "is_word" ["strands", "word", "most"] sp_is_word) : Df P w K mg base (n + 1) "is_plait" ["plait"] sp_is_plait := by
 obtain ⟨tk_MOST_LETTERS, c_MOST_LETTERS⟩ := Z.c_MOST_LETTERS
 refine F.dfn hm hb sc_is_plait (by intro ts M Q h; unfold sp_is_plait at h; first | (split at h <;> first | rfl | exact h.elim) | (obtain ⟨_, _, _, _, _, rfl, _⟩ := h; rfl) | (obtain ⟨_, _, _, _, rfl, _⟩ := h; rfl) | (obtain ⟨_, _, _, rfl, _⟩ := h; rfl) | (obtain ⟨_, _, rfl, _⟩ := h; rfl) | (obtain ⟨_, rfl, _⟩ := h; rfl)) ⟨_, fun cdv A outer s H E hr => (ss_one (s_ret (h_call D_is_word hr (a_cons (h_ix (hv 0) h_int) (a_cons (h_ix (hv 0) h_int) (a_cons (h_globI c_MOST_LETTERS) a_nil)))))), fun ts M Q h => ?_⟩
 unfold sp_is_plait at h
 split at h
 · rename_i n w
   obtain ⟨ws, rfl, hl, h⟩ := h
   walk_at "rd"
   refine ⟨ws, rfl, hl, ?_⟩
   rw [isWd_16]
   exact rt3_here h
 · exact h.elim
noncomputable def sp_looked : Sp3 := fun ts M Q => match ts with
 | [.tup [.int n, .tup w]] => ∃ ws : List Int, w = ws.map .int ∧ PlOK n ws ∧ Q (.int ws.length) M
 | _ => False
theorem ok_looked {P : Program} {w : World} {K : PySem.W.Frag} {mg : Str → Option Value} {base : Heap} {f : Addr} {fd : FuncData} {n : Nat}  (F : Fun K "looked" "looked" s_looked f fd) (hm : mg "looked" = some (.ref f)) (hb : Binds K fd ["plait"] []) (Z : Zs mg) (D_is_plait : Df P w K mg base n "is_plait" ["plait"] sp_is_plait) : Df P w K mg base (n + 1) "looked" ["plait"] sp_looked := by
 refine F.dfn hm hb sc_looked (by intro ts M Q h; unfold sp_looked at h; first | (split at h <;> first | rfl | exact h.elim) | (obtain ⟨_, _, _, _, _, rfl, _⟩ := h; rfl) | (obtain ⟨_, _, _, _, rfl, _⟩ := h; rfl) | (obtain ⟨_, _, _, rfl, _⟩ := h; rfl) | (obtain ⟨_, _, rfl, _⟩ := h; rfl) | (obtain ⟨_, rfl, _⟩ := h; rfl)) ⟨_, fun cdv A outer s H E hr => (ss_cons (s_if (h_not (h_truth (h_call D_is_plait hr (a_cons (hv 0) a_nil)))) (ss_one s_never) ss_nil) (ss_one (s_ret (h_callB call3_len Z.b_len PySem.boot_len (a_cons (h_ix (hv 0) h_int) a_nil))))), fun ts M Q h => ?_⟩
 unfold sp_looked at h
 split at h
 · rename_i n w
   obtain ⟨ws, rfl, ok, h⟩ := h
   walk_at "rd"
   refine ⟨ws, rfl, by have := ok.2.2.1; lia, ?_⟩
   rw [ok.is]
   walk_at "rd"
   exact rt3_here (M := M) h
 · exact h.elim
noncomputable def sp_looked_both : Sp3 := fun ts M Q => match ts with
 | [.tup [.int n, .tup w], .tup [.int m, .tup v]] => ∃ ws vs : List Int, w = ws.map .int ∧ v = vs.map .int ∧ n = m ∧ PlOK n ws ∧ PlOK n vs ∧ Q (.int (ws.length + vs.length)) M
 | _ => False
theorem ok_looked_both {P : Program} {w : World} {K : PySem.W.Frag} {mg : Str → Option Value} {base : Heap} {f : Addr} {fd : FuncData} {n : Nat}  (F : Fun K "looked_both" "looked_both" s_looked_both f fd) (hm : mg "looked_both" = some (.ref f)) (hb : Binds K fd ["one", "other"] []) (Z : Zs mg) (D_looked : Df P w K mg base n "looked" ["plait"] sp_looked) : Df P w K mg base (n + 1) "looked_both" ["one", "other"] sp_looked_both := by
 refine F.dfn hm hb sc_looked_both (by intro ts M Q h; unfold sp_looked_both at h; first | (split at h <;> first | rfl | exact h.elim) | (obtain ⟨_, _, _, _, _, rfl, _⟩ := h; rfl) | (obtain ⟨_, _, _, _, rfl, _⟩ := h; rfl) | (obtain ⟨_, _, _, rfl, _⟩ := h; rfl) | (obtain ⟨_, _, rfl, _⟩ := h; rfl) | (obtain ⟨_, rfl, _⟩ := h; rfl)) ⟨_, fun cdv A outer s H E hr => (ss_cons (s_set (i := 2) (h_bin op3_add (h_call D_looked hr (a_cons (hv 0) a_nil)) (h_call D_looked hr (a_cons (hv 1) a_nil))) sc_looked_both.nd) (ss_cons (s_if (h_tcmp (op3_ne hr.units) (h_ix (hv 0) h_int) (h_ix (hv 1) h_int) (nomark _)) (ss_one s_never) ss_nil) (ss_one (s_ret (hv 2))))), fun ts M Q h => ?_⟩
 unfold sp_looked_both at h
 split at h
 · rename_i n w m v
   obtain ⟨ws, vs, rfl, rfl, rfl, ok1, ok2, h⟩ := h
   walk_at "rd"
   refine ⟨ws, rfl, ok1, ?_⟩
   walk_at "rd"
   refine ⟨vs, rfl, ok2, ?_⟩
   walk_at "rd"
   exact rt3_here h
 · exact h.elim
noncomputable def sp_exchanged : Sp3 := fun ts M Q => match ts with
 | [.tup w, .int k] => ∃ ws : List Int, w = ws.map .int ∧ 0 ≤ k ∧ k + 1 < ws.length ∧ ws.length < 10000 ∧ Q (.tup ((swapN ws k.toNat).map .int)) M
 | _ => False
theorem ok_exchanged {P : Program} {w : World} {K : PySem.W.Frag} {mg : Str → Option Value} {base : Heap} {f : Addr} {fd : FuncData} {n : Nat}  (F : Fun K "exchanged" "exchanged" s_exchanged f fd) (hm : mg "exchanged" = some (.ref f)) (hb : Binds K fd ["row", "at"] []) (Z : Zs mg)  : Df P w K mg base (n + 1) "exchanged" ["row", "at"] sp_exchanged := by
 refine F.dfn hm hb sc_exchanged (by intro ts M Q h; unfold sp_exchanged at h; first | (split at h <;> first | rfl | exact h.elim) | (obtain ⟨_, _, _, _, _, rfl, _⟩ := h; rfl) | (obtain ⟨_, _, _, _, rfl, _⟩ := h; rfl) | (obtain ⟨_, _, _, rfl, _⟩ := h; rfl) | (obtain ⟨_, _, rfl, _⟩ := h; rfl) | (obtain ⟨_, rfl, _⟩ := h; rfl)) ⟨_, fun cdv A outer s H E hr => (ss_one (s_ret (h_bin op3_add (h_bin op3_add (h_slice (hv 0) o_none (o_some (hv 1))) (h_tup (a_cons (h_ix (hv 0) (h_bin op3_add (hv 1) h_int)) (a_cons (h_ix (hv 0) (hv 1)) a_nil)))) (h_slice (hv 0) (o_some (h_bin op3_add (hv 1) h_int)) o_none)))), fun ts M Q h => ?_⟩
 unfold sp_exchanged at h
 split at h
 · rename_i w k
   obtain ⟨ws, rfl, k0, k1, hl, h⟩ := h
   obtain ⟨i, rfl⟩ := Int.eq_ofNat_of_zero_le k0
   walk_at "rd"
   have a1 : atI (ws.map T.int) ((i : Int) + 1) = some (.int (ws.getD (i + 1) 0)) := by
     have := atI_ints ws ((i : Int) + 1) (by lia) (by lia)
     rwa [show ((i : Int) + 1).toNat = i + 1 by lia] at this
   have a2 : atI (ws.map T.int) (i : Int) = some (.int (ws.getD i 0)) := by
     have := atI_ints ws (i : Int) (by lia) (by lia)
     rwa [Int.toNat_natCast] at this
   have c1 : cutT (ws.map T.int) none (some (i : Int)) = (ws.take i).map T.int := by
     rw [cutT_to _ _ (by lia) (by rw [List.length_map]; lia), Int.toNat_natCast, List.map_take]
   have c2 : cutT (ws.map T.int) (some ((i : Int) + 2)) none = (ws.drop (i + 2)).map T.int := by
     have k1' : i + 1 < ws.length := by lia
     rw [cutT_from _ _ (by lia) (by rw [List.length_map]; lia), show ((i : Int) + 2).toNat = i + 2 by lia, List.map_drop]
   have l1 : (ws.take i).length = i := by rw [List.length_take]; lia
   have l2 : (ws.drop (i + 2)).length = ws.length - (i + 2) := List.length_drop ..
   simp only [a1, a2, c1, c2]
   walk_at "rd"
   refine ⟨by decide, line_len' (by lia), line_len' (by lia), ?_⟩
   have e : List.map T.int (List.take i ws) ++ [T.int (ws.getD (i + 1) 0), T.int (ws.getD i 0)] ++ List.map T.int (List.drop (i + 2) ws) = List.map T.int (swapN ws i) := by
     rw [← swapN_cut ws i (by lia)]
     simp
   rw [e]
   exact rt3_here h
 · exact h.elim
noncomputable def sp_places_in : Sp3 := fun ts M Q => match ts with
 | [.tup w] => ∃ ws : List Int, w = ws.map .int ∧ ws.length < 10000 ∧ (∀ s : Int, 0 ≤ s → s < ws.length → s ∈ ws) ∧ Q (.tup (((range0 ws.length).map fun s => ((ws.idxOf s : Nat) : Int)).map .int)) M
 | _ => False
theorem ok_places_in {P : Program} {w : World} {K : PySem.W.Frag} {mg : Str → Option Value} {base : Heap} {f : Addr} {fd : FuncData} {n : Nat}  (F : Fun K "places_in" "places_in" s_places_in f fd) (hm : mg "places_in" = some (.ref f)) (hb : Binds K fd ["order"] []) (Z : Zs mg)  : Df P w K mg base (n + 1) "places_in" ["order"] sp_places_in := by
 refine F.dfn hm hb sc_places_in (by intro ts M Q h; unfold sp_places_in at h; first | (split at h <;> first | rfl | exact h.elim) | (obtain ⟨_, _, _, _, _, rfl, _⟩ := h; rfl) | (obtain ⟨_, _, _, _, rfl, _⟩ := h; rfl) | (obtain ⟨_, _, _, rfl, _⟩ := h; rfl) | (obtain ⟨_, _, rfl, _⟩ := h; rfl) | (obtain ⟨_, rfl, _⟩ := h; rfl)) ⟨_, fun cdv A outer s H E hr => (ss_one (s_ret (h_callT call3_tuple Z.b_tuple PyProof.Rows.boot_tuple (a_cons (h_comp rfl (i_range1 Z.b_range (a_cons (h_callB call3_len Z.b_len PySem.boot_len (a_cons (hv 0) a_nil)) a_nil)) (blk_scope (outer := defScope s_places_in) (N := ["order"]) (N' := ["number", "order"]) (ix := [none, some 0]) (by decide +kernel) rfl rfl) bt_name (fun _ _ _ _ _ => pg_name (i := 0) (show List.Nodup (["number", "order"] : List Str) by decide +kernel) rfl (Or.inl rfl) (Or.inr rfl)) (fun _ _ _ _ _ => ts_nil) (fun _ _ _ _ _ => (h_m_index (hv 1) (a_cons (hv 0) a_nil)))) a_nil)))), fun ts M Q h => ?_⟩
 unfold sp_places_in at h
 split at h
 · rename_i w
   obtain ⟨ws, rfl, hl, hmm, h⟩ := h
   walk_at "rd"
   have lm : (ws.map T.int).length = ws.length := List.length_map ..
   refine ⟨by lia, by lia, fun i ys M2 => ys = (((range0 ws.length).take i).map fun s => ((ws.idxOf s : Nat) : Int)).map T.int ∧ M2 = M, ⟨rfl, rfl⟩, fun _ _ _ _ => trivial, by rw [rangeT_length]; exact Nat.lt_of_le_of_lt (by lia : (ws.length : Int).toNat ≤ 10000) (by decide), ?_, ?_⟩
   · rintro i x ys M2 hx ⟨rfl, rfl⟩
     rw [rangeT0] at hx
     obtain ⟨s, hs, rfl⟩ := get_map_int hx
     obtain ⟨s0, s1⟩ := mem_range0 (List.mem_of_getElem? hs)
     walk_at "rd"
     refine ⟨hmm s s0 s1, ?_⟩
     rw [← take_succ_map (fun s => ((ws.idxOf s : Nat) : Int)) hs, List.map_append]; rfl
   · rintro ys M2 ⟨rfl, rfl⟩ q hq
     rw [rangeT_length, List.take_of_length_le (by rw [range0_length]; exact Nat.le_refl _)]
     exact rt3_sub (M0 := M2) h (Sub.new hq)
 · exact h.elim
noncomputable def sp_behind : Sp3 := fun ts M Q => match ts with
 | [.tup [.int n, .tup w], .tup [.int m, .tup v]] => ∃ ws vs : List Int, w = ws.map .int ∧ v = vs.map .int ∧ n = m ∧ PlOK n ws ∧ PlOK n vs ∧ ws.length + vs.length ≤ 16 ∧ Q (.tup [.int n, .tup ((ws ++ vs).map .int)]) M
 | _ => False
theorem ok_behind {P : Program} {w : World} {K : PySem.W.Frag} {mg : Str → Option Value} {base : Heap} {f : Addr} {fd : FuncData} {n : Nat}  (F : Fun K "behind" "behind" s_behind f fd) (hm : mg "behind" = some (.ref f)) (hb : Binds K fd ["one", "other"] []) (Z : Zs mg) (D_looked_both : Df P w K mg base n "looked_both" ["one", "other"] sp_looked_both) : Df P w K mg base (n + 1) "behind" ["one", "other"] sp_behind := by
 obtain ⟨tk_MOST_LETTERS, c_MOST_LETTERS⟩ := Z.c_MOST_LETTERS
 refine F.dfn hm hb sc_behind (by intro ts M Q h; unfold sp_behind at h; first | (split at h <;> first | rfl | exact h.elim) | (obtain ⟨_, _, _, _, _, rfl, _⟩ := h; rfl) | (obtain ⟨_, _, _, _, rfl, _⟩ := h; rfl) | (obtain ⟨_, _, _, rfl, _⟩ := h; rfl) | (obtain ⟨_, _, rfl, _⟩ := h; rfl) | (obtain ⟨_, rfl, _⟩ := h; rfl)) ⟨_, fun cdv A outer s H E hr => (ss_cons (s_if (h_tcmp op3_gt (h_call D_looked_both hr (a_cons (hv 0) (a_cons (hv 1) a_nil))) (h_globI c_MOST_LETTERS) (nomark _)) (ss_one s_never) ss_nil) (ss_one (s_ret (h_tup (a_cons (h_ix (hv 0) h_int) (a_cons (h_bin op3_add (h_ix (hv 0) h_int) (h_ix (hv 1) h_int)) a_nil)))))), fun ts M Q h => ?_⟩
 unfold sp_behind at h
 split at h
 · rename_i n w m v
   obtain ⟨ws, vs, rfl, rfl, rfl, ok1, ok2, hl, h⟩ := h
   walk_at "rd"
   refine ⟨ws, vs, rfl, rfl, rfl, ok1, ok2, ?_⟩
   walk_at "rd"
   rw [if_neg (by lia), List.map_append.symm]
   have := line_len' (n := ws.length + vs.length) (by lia)
   exact ⟨this, by decide, rt3_here h⟩
 · exact h.elim
noncomputable def sp_mirrored : Sp3 := fun ts M Q => match ts with
 | [.tup [.int n, .tup w]] => ∃ ws : List Int, w = ws.map .int ∧ PlOK n ws ∧ Q (.tup [.int n, .tup ((ws.map fun l => -l).map .int)]) M
 | _ => False
theorem ok_mirrored {P : Program} {w : World} {K : PySem.W.Frag} {mg : Str → Option Value} {base : Heap} {f : Addr} {fd : FuncData} {n : Nat}  (F : Fun K "mirrored" "mirrored" s_mirrored f fd) (hm : mg "mirrored" = some (.ref f)) (hb : Binds K fd ["plait"] []) (Z : Zs mg) (D_looked : Df P w K mg base n "looked" ["plait"] sp_looked) : Df P w K mg base (n + 1) "mirrored" ["plait"] sp_mirrored := by
 refine F.dfn hm hb sc_mirrored (by intro ts M Q h; unfold sp_mirrored at h; first | (split at h <;> first | rfl | exact h.elim) | (obtain ⟨_, _, _, _, _, rfl, _⟩ := h; rfl) | (obtain ⟨_, _, _, _, rfl, _⟩ := h; rfl) | (obtain ⟨_, _, _, rfl, _⟩ := h; rfl) | (obtain ⟨_, _, rfl, _⟩ := h; rfl) | (obtain ⟨_, rfl, _⟩ := h; rfl)) ⟨_, fun cdv A outer s H E hr => (ss_cons (s_expr (h_call D_looked hr (a_cons (hv 0) a_nil))) (ss_one (s_ret (h_tup (a_cons (h_ix (hv 0) h_int) (a_cons (h_callT call3_tuple Z.b_tuple PyProof.Rows.boot_tuple (a_cons (h_comp rfl (i_seq (h_ix (hv 0) h_int)) (blk_scope (outer := defScope s_mirrored) (N := ["plait"]) (N' := ["letter"]) (ix := [none]) (by decide +kernel) rfl rfl) bt_name (fun _ _ _ _ _ => pg_name (i := 0) (show List.Nodup (["letter"] : List Str) by decide +kernel) rfl (Or.inl rfl) (Or.inr rfl)) (fun _ _ _ _ _ => ts_nil) (fun _ _ _ _ _ => (h_un un3_neg (hv 0)))) a_nil)) a_nil)))))), fun ts M Q h => ?_⟩
 unfold sp_mirrored at h
 split at h
 · rename_i n w
   obtain ⟨ws, rfl, ok, h⟩ := h
   have hl : ws.length < 10000 := by have := ok.2.2.1; lia
   walk_at "rd"
   refine ⟨ws, rfl, ok, ?_⟩
   walk_at "rd"
   refine ⟨fun i ys M' => ys = ((ws.take i).map (fun l => -l)).map T.int ∧ M' = M, ⟨rfl, rfl⟩, fun _ _ _ _ => trivial, ?_, ?_, ?_⟩
   · exact Nat.lt_of_le_of_lt (by lia : ws.length ≤ 10000) (by decide)
   · rintro i x ys M' hx ⟨rfl, rfl⟩
     obtain ⟨l, hl', rfl⟩ := get_map_int hx
     walk_at "rd"
     rw [← take_succ_map (fun l : Int => -l) hl', List.map_append]; rfl
   · rintro ys M' ⟨rfl, rfl⟩ p hp
     rw [List.take_length]
     exact ⟨by decide, rt3_sub (M0 := M') h (Sub.new hp)⟩
 · exact h.elim
noncomputable def sp_flipped_letter : Sp3 := fun ts M Q => match ts with
 | [.int n, .int l] => n.natAbs < 1000000 ∧ l.natAbs < 1000000 ∧ Q (.int (flipL n l)) M
 | _ => False
theorem ok_flipped_letter {P : Program} {w : World} {K : PySem.W.Frag} {mg : Str → Option Value} {base : Heap} {f : Addr} {fd : FuncData} {n : Nat}  (F : Fun K "flipped_letter" "flipped_letter" s_flipped_letter f fd) (hm : mg "flipped_letter" = some (.ref f)) (hb : Binds K fd ["strands", "letter"] []) (Z : Zs mg)  : Df P w K mg base (n + 1) "flipped_letter" ["strands", "letter"] sp_flipped_letter := by
 refine F.dfn hm hb sc_flipped_letter (by intro ts M Q h; unfold sp_flipped_letter at h; first | (split at h <;> first | rfl | exact h.elim) | (obtain ⟨_, _, _, _, _, rfl, _⟩ := h; rfl) | (obtain ⟨_, _, _, _, rfl, _⟩ := h; rfl) | (obtain ⟨_, _, _, rfl, _⟩ := h; rfl) | (obtain ⟨_, _, rfl, _⟩ := h; rfl) | (obtain ⟨_, rfl, _⟩ := h; rfl)) ⟨_, fun cdv A outer s H E hr => (ss_cons (s_if (h_tcmp op3_lt (hv 1) h_int (nomark _)) (ss_one (s_ret (h_un un3_neg (h_bin op3_add (hv 0) (hv 1))))) ss_nil) (ss_one (s_ret (h_bin op3_sub (hv 0) (hv 1))))), fun ts M Q h => ?_⟩
 unfold sp_flipped_letter at h
 split at h
 · rename_i n l
   obtain ⟨h1, h2, h⟩ := h
   unfold flipL at h
   walk_at "rd"
   refine ite2 (fun c1 => ?_) (fun c1 => ?_)
   · rw [if_pos c1] at h
     exact rt3_here h
   · rw [if_neg c1] at h
     exact rt3_here h
 · exact h.elim
noncomputable def sp_flipped : Sp3 := fun ts M Q => match ts with
 | [.tup [.int n, .tup w]] => ∃ ws : List Int, w = ws.map .int ∧ PlOK n ws ∧ Q (.tup [.int n, .tup ((ws.map (flipL n)).map .int)]) M
 | _ => False
theorem ok_flipped {P : Program} {w : World} {K : PySem.W.Frag} {mg : Str → Option Value} {base : Heap} {f : Addr} {fd : FuncData} {n : Nat}  (F : Fun K "flipped" "flipped" s_flipped f fd) (hm : mg "flipped" = some (.ref f)) (hb : Binds K fd ["plait"] []) (Z : Zs mg) (D_looked : Df P w K mg base n "looked" ["plait"] sp_looked) (D_flipped_letter : Df P w K mg base n "flipped_letter" ["strands", "letter"] sp_flipped_letter) : Df P w K mg base (n + 1) "flipped" ["plait"] sp_flipped := by
 refine F.dfn hm hb sc_flipped (by intro ts M Q h; unfold sp_flipped at h; first | (split at h <;> first | rfl | exact h.elim) | (obtain ⟨_, _, _, _, _, rfl, _⟩ := h; rfl) | (obtain ⟨_, _, _, _, rfl, _⟩ := h; rfl) | (obtain ⟨_, _, _, rfl, _⟩ := h; rfl) | (obtain ⟨_, _, rfl, _⟩ := h; rfl) | (obtain ⟨_, rfl, _⟩ := h; rfl)) ⟨_, fun cdv A outer s H E hr => (ss_cons (s_expr (h_call D_looked hr (a_cons (hv 0) a_nil))) (ss_cons (s_set (i := 1) (h_ix (hv 0) h_int) sc_flipped.nd) (ss_one (s_ret (h_tup (a_cons (hv 1) (a_cons (h_callT call3_tuple Z.b_tuple PyProof.Rows.boot_tuple (a_cons (h_comp rfl (i_seq (h_ix (hv 0) h_int)) (blk_scope (outer := defScope s_flipped) (N := ["plait", "strands"]) (N' := ["letter", "strands"]) (ix := [none, some 1]) (by decide +kernel) rfl rfl) bt_name (fun _ _ _ _ _ => pg_name (i := 0) (show List.Nodup (["letter", "strands"] : List Str) by decide +kernel) rfl (Or.inl rfl) (Or.inr rfl)) (fun _ _ _ _ _ => ts_nil) (fun _ _ _ _ _ => (h_call D_flipped_letter hr (a_cons (hv 1) (a_cons (hv 0) a_nil))))) a_nil)) a_nil))))))), fun ts M Q h => ?_⟩
 unfold sp_flipped at h
 split at h
 · rename_i n w
   obtain ⟨ws, rfl, ok, h⟩ := h
   have hl : ws.length < 10000 := by have := ok.2.2.1; lia
   walk_at "rd"
   refine ⟨ws, rfl, ok, ?_⟩
   walk_at "rd"
   refine ⟨fun i ys M' => ys = ((ws.take i).map (flipL n)).map T.int ∧ M' = M, ⟨rfl, rfl⟩, fun _ _ _ _ => trivial, ?_, ?_, ?_⟩
   · exact Nat.lt_of_le_of_lt (by lia : ws.length ≤ 10000) (by decide)
   · rintro i x ys M' hx ⟨rfl, rfl⟩
     obtain ⟨l, hl', rfl⟩ := get_map_int hx
     obtain ⟨l1, l2⟩ := ok.2.2.2 l (List.mem_of_getElem? hl')
     have := ok.1
     have := ok.2.1
     unfold sp_flipped_letter
     refine ⟨by lia, by lia, ?_, rfl⟩
     rw [← take_succ_map (flipL n) hl', List.map_append]; rfl
   · rintro ys M' ⟨rfl, rfl⟩ p hp
     rw [List.take_length]
     exact ⟨by decide, rt3_sub (M0 := M') h (Sub.new hp)⟩
 · exact h.elim
noncomputable def sp_order_of : Sp3 := fun ts M Q => match ts with
 | [.tup [.int n, .tup w]] => ∃ ws : List Int, w = ws.map .int ∧ PlOK n ws ∧ Q (.tup ((orderL n ws).map .int)) M
 | _ => False
theorem ok_order_of {P : Program} {w : World} {K : PySem.W.Frag} {mg : Str → Option Value} {base : Heap} {f : Addr} {fd : FuncData} {n : Nat}  (F : Fun K "order_of" "order_of" s_order_of f fd) (hm : mg "order_of" = some (.ref f)) (hb : Binds K fd ["plait"] []) (Z : Zs mg) (D_looked : Df P w K mg base n "looked" ["plait"] sp_looked) (D_exchanged : Df P w K mg base n "exchanged" ["row", "at"] sp_exchanged) (D_places_in : Df P w K mg base n "places_in" ["order"] sp_places_in) : Df P w K mg base (n + 1) "order_of" ["plait"] sp_order_of := by
 refine F.dfn hm hb sc_order_of (by intro ts M Q h; unfold sp_order_of at h; first | (split at h <;> first | rfl | exact h.elim) | (obtain ⟨_, _, _, _, _, rfl, _⟩ := h; rfl) | (obtain ⟨_, _, _, _, rfl, _⟩ := h; rfl) | (obtain ⟨_, _, _, rfl, _⟩ := h; rfl) | (obtain ⟨_, _, rfl, _⟩ := h; rfl) | (obtain ⟨_, rfl, _⟩ := h; rfl)) ⟨_, fun cdv A outer s H E hr => (ss_cons (s_expr (h_call D_looked hr (a_cons (hv 0) a_nil))) (ss_cons (s_set (i := 1) (h_tupRange1 Z.b_tuple Z.b_range (a_cons (h_ix (hv 0) h_int) a_nil)) sc_order_of.nd) (ss_cons (s_for PassesOwn.never rfl (i_seq (h_ix (hv 0) h_int)) (g_name (i := 2) sc_order_of.nd) (ss_one (s_set (i := 1) (h_call D_exchanged hr (a_cons (hv 1) (a_cons (h_bin op3_sub (h_callB call3_abs Z.b_abs PyProof.Rows.boot_abs (a_cons (hv 2) a_nil)) h_int) a_nil))) sc_order_of.nd))) (ss_one (s_ret (h_call D_places_in hr (a_cons (hv 1) a_nil))))))), fun ts M Q h => ?_⟩
 unfold sp_order_of at h
 split at h
 · rename_i n w
   obtain ⟨ws, rfl, ok, h⟩ := h
   obtain ⟨o1, o2, o3, o4⟩ := id ok
   walk_at "rd"
   refine ⟨ws, rfl, ok, ?_⟩
   walk_at "rd"
   refine ⟨⟨by lia, by lia⟩, ?_⟩
   refine ⟨fun i ρ M' => ∃ a, ρ = [some (T.tup [T.int n, T.tup (ws.map T.int)]), some (T.tup ((standL n (ws.take i)).map T.int)), a] ∧ Sub M M',
     ⟨none, by rw [rangeT_map]; rfl, Sub.refl⟩, fun _ _ _ _ => trivial, ?_, ?_⟩
   · rintro i x ρ M' hx ⟨a, rfl, hS⟩
     obtain ⟨l, hl, rfl⟩ := get_map_int hx
     have lk : LetOK n l := o4 l (List.mem_of_getElem? hl)
     unfold LetOK at lk
     have sl := standL_length n (ws.take i)
     walk_at "rd"
     refine ⟨_, rfl, by lia, by rw [sl]; lia, by rw [sl]; lia, some (.int l), ?_, hS⟩
     rw [standL_succ hl, show ((l.natAbs : Int) - 1).toNat = l.natAbs - 1 by lia, swapN_swapL _ _ (by lia)]
   · rintro ρ M' ⟨a, rfl, hS⟩
     rw [List.length_map, List.take_length]
     walk_at "rd"
     refine ⟨_, rfl, by rw [standL_length]; lia, ?_, ?_⟩
     · intro s s0 s1
       rw [standL_length] at s1
       exact stand_mem n ws o4 s s0 (by lia)
     · have e : (((standL n ws).length : Nat) : Int) = n := by rw [standL_length]; lia
       rw [e]
       exact rt3_sub h hS
 · exact h.elim
theorem isWd_ok {n k : Int} {w : List Int} (h1 : 1 ≤ n) (h6 : n ≤ 6) (hl : (w.length : Int) ≤ k) (hw : WordOK n w) : isWd n w k = true := by
 unfold isWd
 rw [decide_eq_true h1, decide_eq_true h6, decide_eq_true hl, List.all_eq_true.mpr fun x hx => ?_]
 · rfl
 · have := hw x hx
   unfold LetOK at this
   unfold isLet
   simp only [decide_eq_true_eq, Bool.and_eq_true]
   lia
noncomputable def sp_looked_word : Sp3 := fun ts M Q => match ts with
 | [.int n, .tup w] => ∃ ws : List Int, w = ws.map .int ∧ ws.length ≤ 4000 ∧ 1 ≤ n ∧ n ≤ 6 ∧ WordOK n ws ∧ Q .non M
 | _ => False
theorem ok_looked_word {P : Program} {w : World} {K : PySem.W.Frag} {mg : Str → Option Value} {base : Heap} {f : Addr} {fd : FuncData} {n : Nat}  (F : Fun K "looked_word" "looked_word" s_looked_word f fd) (hm : mg "looked_word" = some (.ref f)) (hb : Binds K fd ["strands", "word"] []) (Z : Zs mg) (D_is_word : Df P w K mg base n "is_word" ["strands", "word", "most"] sp_is_word) : Df P w K mg base (n + 1) "looked_word" ["strands", "word"] sp_looked_word := by
 obtain ⟨tk_MOST_LETTERS_IN_STEPS, c_MOST_LETTERS_IN_STEPS⟩ := Z.c_MOST_LETTERS_IN_STEPS
 refine F.dfn hm hb sc_looked_word (by intro ts M Q h; unfold sp_looked_word at h; first | (split at h <;> first | rfl | exact h.elim) | (obtain ⟨_, _, _, _, _, rfl, _⟩ := h; rfl) | (obtain ⟨_, _, _, _, rfl, _⟩ := h; rfl) | (obtain ⟨_, _, _, rfl, _⟩ := h; rfl) | (obtain ⟨_, _, rfl, _⟩ := h; rfl) | (obtain ⟨_, rfl, _⟩ := h; rfl)) ⟨_, fun cdv A outer s H E hr => (ss_one (s_if (h_not (h_truth (h_call D_is_word hr (a_cons (hv 0) (a_cons (hv 1) (a_cons (h_globI c_MOST_LETTERS_IN_STEPS) a_nil)))))) (ss_one s_never) ss_nil)), fun ts M Q h => ?_⟩
 unfold sp_looked_word at h
 split at h
 · rename_i n w
   obtain ⟨ws, rfl, hl, h1, h6, hw, h⟩ := h
   walk_at "rd"
   refine ⟨ws, rfl, by lia, ?_⟩
   rw [isWd_ok h1 h6 (by lia) hw]
   walk_at "rd"
   exact rt3_here (M := M) h
 · exact h.elim
noncomputable def sp_can_far : Sp3 := fun ts M Q => match ts with
 | [.tup w, .int a] => ∃ ws : List Int, w = ws.map .int ∧ Sm ws ∧ Q (.bl (canFar ws a)) M
 | _ => False
theorem ok_can_far {P : Program} {w : World} {K : PySem.W.Frag} {mg : Str → Option Value} {base : Heap} {f : Addr} {fd : FuncData} {n : Nat}  (F : Fun K "can_far" "can_far" s_can_far f fd) (hm : mg "can_far" = some (.ref f)) (hb : Binds K fd ["word", "at"] []) (Z : Zs mg)  : Df P w K mg base (n + 1) "can_far" ["word", "at"] sp_can_far := by
 refine F.dfn hm hb sc_can_far (by intro ts M Q h; unfold sp_can_far at h; first | (split at h <;> first | rfl | exact h.elim) | (obtain ⟨_, _, _, _, _, rfl, _⟩ := h; rfl) | (obtain ⟨_, _, _, _, rfl, _⟩ := h; rfl) | (obtain ⟨_, _, _, rfl, _⟩ := h; rfl) | (obtain ⟨_, _, rfl, _⟩ := h; rfl) | (obtain ⟨_, rfl, _⟩ := h; rfl)) ⟨_, fun cdv A outer s H E hr => (ss_cons (s_if (h_not (h_tchain op3_le op3_lt h_int (hv 1) (h_bin op3_sub (h_callB call3_len Z.b_len PySem.boot_len (a_cons (hv 0) a_nil)) h_int))) (ss_one (s_ret h_bl)) ss_nil) (ss_one (s_ret (h_cmp op3_gt (h_callB call3_abs Z.b_abs PyProof.Rows.boot_abs (a_cons (h_bin op3_sub (h_callB call3_abs Z.b_abs PyProof.Rows.boot_abs (a_cons (h_ix (hv 0) (hv 1)) a_nil)) (h_callB call3_abs Z.b_abs PyProof.Rows.boot_abs (a_cons (h_ix (hv 0) (h_bin op3_add (hv 1) h_int)) a_nil))) a_nil)) h_int (nomark _))))), fun ts M Q h => ?_⟩
 unfold sp_can_far at h
 split at h
 · rename_i w a
   obtain ⟨ws, rfl, sm, h⟩ := h
   unfold canFar at h
   walk_at "rd"
   by_cases c : 0 ≤ a ∧ a < (ws.length : Int) - 1
   · rw [decide_eq_true c, Bool.true_and] at h
     rw [if_pos c.1, if_neg (by lia)]
     simp only [gI_at (w := ws) (a := a) c.1 (by lia), gI_at (w := ws) (a := a + 1) (by lia) (by lia)]
     exact rt3_here h
   · rw [decide_eq_false c, Bool.false_and] at h
     exact ite2 (fun c1 => ite2 (fun c2 => rt3_here h) (fun c2 => absurd ⟨c1, by lia⟩ c)) (fun c1 => rt3_here h)
 · exact h.elim
noncomputable def sp_can_three : Sp3 := fun ts M Q => match ts with
 | [.tup w, .int a] => ∃ ws : List Int, w = ws.map .int ∧ Sm ws ∧ Q (.bl (canThree ws a)) M
 | _ => False
theorem ok_can_three {P : Program} {w : World} {K : PySem.W.Frag} {mg : Str → Option Value} {base : Heap} {f : Addr} {fd : FuncData} {n : Nat}  (F : Fun K "can_three" "can_three" s_can_three f fd) (hm : mg "can_three" = some (.ref f)) (hb : Binds K fd ["word", "at"] []) (Z : Zs mg)  : Df P w K mg base (n + 1) "can_three" ["word", "at"] sp_can_three := by
 refine F.dfn hm hb sc_can_three (by intro ts M Q h; unfold sp_can_three at h; first | (split at h <;> first | rfl | exact h.elim) | (obtain ⟨_, _, _, _, _, rfl, _⟩ := h; rfl) | (obtain ⟨_, _, _, _, rfl, _⟩ := h; rfl) | (obtain ⟨_, _, _, rfl, _⟩ := h; rfl) | (obtain ⟨_, _, rfl, _⟩ := h; rfl) | (obtain ⟨_, rfl, _⟩ := h; rfl)) ⟨_, fun cdv A outer s H E hr => (ss_cons (s_if (h_not (h_tchain op3_le op3_lt h_int (hv 1) (h_bin op3_sub (h_callB call3_len Z.b_len PySem.boot_len (a_cons (hv 0) a_nil)) h_int))) (ss_one (s_ret h_bl)) ss_nil) (ss_cons (s_set (i := 2) (h_ix (hv 0) (hv 1)) sc_can_three.nd) (ss_cons (s_set (i := 3) (h_ix (hv 0) (h_bin op3_add (hv 1) h_int)) sc_can_three.nd) (ss_cons (s_set (i := 4) (h_ix (hv 0) (h_bin op3_add (hv 1) h_int)) sc_can_three.nd) (ss_cons (s_if (HW.ht (w_or (h_tcmp (op3_ne hr.units) (h_callB call3_abs Z.b_abs PyProof.Rows.boot_abs (a_cons (hv 2) a_nil)) (h_callB call3_abs Z.b_abs PyProof.Rows.boot_abs (a_cons (hv 4) a_nil)) (nomark _)) (w_or1 (h_tcmp (op3_ne hr.units) (h_callB call3_abs Z.b_abs PyProof.Rows.boot_abs (a_cons (h_bin op3_sub (h_callB call3_abs Z.b_abs PyProof.Rows.boot_abs (a_cons (hv 2) a_nil)) (h_callB call3_abs Z.b_abs PyProof.Rows.boot_abs (a_cons (hv 3) a_nil))) a_nil)) h_int (nomark _))))) (ss_one (s_ret h_bl)) ss_nil) (ss_one (s_ret (h_or (h_cmp (op3_ne hr.units) (hv 2) (hv 4) (nomark _)) (h_one (h_cmp op3_gt (h_bin op3_mul (hv 2) (hv 3)) h_int (nomark _))))))))))), fun ts M Q h => ?_⟩
 unfold sp_can_three at h
 split at h
 · rename_i w a
   obtain ⟨ws, rfl, sm, h⟩ := h
   unfold canThree at h
   walk_at "rd"
   by_cases c : 0 ≤ a ∧ a < (ws.length : Int) - 2
   · rw [decide_eq_true c, Bool.true_and] at h
     rw [if_pos c.1, if_neg (by lia)]
     simp only [gI_at (w := ws) (a := a) c.1 (by lia), gI_at (w := ws) (a := a + 1) (by lia) (by lia), gI_at (w := ws) (a := a + 2) (by lia) (by lia)]
     have sp := sm.at (a := a) c.1 (by lia)
     refine ite2 (fun c1 => ?_) (fun c1 => ite2 (fun c2 => ?_) (fun c2 => ⟨rfl, rfl, by rw [depT_int]; lia, ?_⟩))
     · rw [decide_eq_false c1, Bool.false_and, Bool.false_and] at h
       exact rt3_here h
     · rw [decide_eq_false c2, Bool.and_false, Bool.false_and] at h
       exact rt3_here h
     · rw [decide_eq_true (Decidable.not_not.mp c1), decide_eq_true (Decidable.not_not.mp c2), Bool.true_and, Bool.true_and] at h
       refine ite2 (fun c3 => ?_) (fun c3 => ⟨.inl ⟨by lia, by lia⟩, ?_⟩)
       · rw [show decide (gI ws a = gI ws (a + 2)) = false from c3] at h
         exact rt3_here h
       · have c4 : decide (gI ws a = gI ws (a + 2)) = true := by
           cases e : decide (gI ws a = gI ws (a + 2)) with
           | true => rfl
           | false => exact absurd e c3
         rw [c4, Bool.not_true, Bool.false_or] at h
         exact rt3_here h
   · rw [decide_eq_false c, Bool.false_and] at h
     exact ite2 (fun c1 => ite2 (fun c2 => rt3_here h) (fun c2 => absurd ⟨c1, by lia⟩ c)) (fun c1 => rt3_here h)
 · exact h.elim
noncomputable def sp_can_out : Sp3 := fun ts M Q => match ts with
 | [.tup w, .int a] => ∃ ws : List Int, w = ws.map .int ∧ Sm ws ∧ Q (.bl (canOut ws a)) M
 | _ => False
theorem ok_can_out {P : Program} {w : World} {K : PySem.W.Frag} {mg : Str → Option Value} {base : Heap} {f : Addr} {fd : FuncData} {n : Nat}  (F : Fun K "can_out" "can_out" s_can_out f fd) (hm : mg "can_out" = some (.ref f)) (hb : Binds K fd ["word", "at"] []) (Z : Zs mg)  : Df P w K mg base (n + 1) "can_out" ["word", "at"] sp_can_out := by
 refine F.dfn hm hb sc_can_out (by intro ts M Q h; unfold sp_can_out at h; first | (split at h <;> first | rfl | exact h.elim) | (obtain ⟨_, _, _, _, _, rfl, _⟩ := h; rfl) | (obtain ⟨_, _, _, _, rfl, _⟩ := h; rfl) | (obtain ⟨_, _, _, rfl, _⟩ := h; rfl) | (obtain ⟨_, _, rfl, _⟩ := h; rfl) | (obtain ⟨_, rfl, _⟩ := h; rfl)) ⟨_, fun cdv A outer s H E hr => (ss_cons (s_if (h_not (h_tchain op3_le op3_lt h_int (hv 1) (h_bin op3_sub (h_callB call3_len Z.b_len PySem.boot_len (a_cons (hv 0) a_nil)) h_int))) (ss_one (s_ret h_bl)) ss_nil) (ss_one (s_ret (h_cmp (op3_eq hr.units) (h_ix (hv 0) (hv 1)) (h_un un3_neg (h_ix (hv 0) (h_bin op3_add (hv 1) h_int))) (nomark _))))), fun ts M Q h => ?_⟩
 unfold sp_can_out at h
 split at h
 · rename_i w a
   obtain ⟨ws, rfl, sm, h⟩ := h
   unfold canOut at h
   walk_at "rd"
   by_cases c : 0 ≤ a ∧ a < (ws.length : Int) - 1
   · rw [decide_eq_true c, Bool.true_and] at h
     rw [if_pos c.1, if_neg (by lia)]
     simp only [gI_at (w := ws) (a := a) c.1 (by lia), gI_at (w := ws) (a := a + 1) (by lia) (by lia)]
     exact ⟨rfl, by rw [depT_int]; lia, rt3_here h⟩
   · rw [decide_eq_false c, Bool.false_and] at h
     exact ite2 (fun c1 => ite2 (fun c2 => rt3_here h) (fun c2 => absurd ⟨c1, by lia⟩ c)) (fun c1 => rt3_here h)
 · exact h.elim
noncomputable def sp_signed : Sp3 := fun ts M Q => match ts with
 | [.int a, .int l] => Q (.int (sgnL a l)) M
 | _ => False
theorem ok_signed {P : Program} {w : World} {K : PySem.W.Frag} {mg : Str → Option Value} {base : Heap} {f : Addr} {fd : FuncData} {n : Nat}  (F : Fun K "signed" "signed" s_signed f fd) (hm : mg "signed" = some (.ref f)) (hb : Binds K fd ["number", "letter"] []) (Z : Zs mg)  : Df P w K mg base (n + 1) "signed" ["number", "letter"] sp_signed := by
 refine F.dfn hm hb sc_signed (by intro ts M Q h; unfold sp_signed at h; first | (split at h <;> first | rfl | exact h.elim) | (obtain ⟨_, _, _, _, _, rfl, _⟩ := h; rfl) | (obtain ⟨_, _, _, _, rfl, _⟩ := h; rfl) | (obtain ⟨_, _, _, rfl, _⟩ := h; rfl) | (obtain ⟨_, _, rfl, _⟩ := h; rfl) | (obtain ⟨_, rfl, _⟩ := h; rfl)) ⟨_, fun cdv A outer s H E hr => (ss_cons (s_if (h_tcmp op3_lt (hv 1) h_int (nomark _)) (ss_one (s_ret (h_un un3_neg (h_callB call3_abs Z.b_abs PyProof.Rows.boot_abs (a_cons (hv 0) a_nil))))) ss_nil) (ss_one (s_ret (h_callB call3_abs Z.b_abs PyProof.Rows.boot_abs (a_cons (hv 0) a_nil))))), fun ts M Q h => ?_⟩
 unfold sp_signed at h
 split at h
 · rename_i a l
   unfold sgnL at h
   walk_at "rd"
   refine ite2 (fun c => ?_) (fun c => ?_)
   · rw [if_pos c] at h; exact rt3_here h
   · rw [if_neg c] at h; exact rt3_here h
 · exact h.elim
noncomputable def sp_with_three : Sp3 := fun ts M Q => match ts with
 | [.tup w, .int a] => ∃ ws : List Int, w = ws.map .int ∧ Sm ws ∧ 0 ≤ a ∧ a < (ws.length : Int) - 2 ∧ Q (.tup ((threeL ws a).map .int)) M
 | _ => False
theorem ok_with_three {P : Program} {w : World} {K : PySem.W.Frag} {mg : Str → Option Value} {base : Heap} {f : Addr} {fd : FuncData} {n : Nat}  (F : Fun K "with_three" "with_three" s_with_three f fd) (hm : mg "with_three" = some (.ref f)) (hb : Binds K fd ["word", "at"] []) (Z : Zs mg) (D_signed : Df P w K mg base n "signed" ["number", "letter"] sp_signed) : Df P w K mg base (n + 1) "with_three" ["word", "at"] sp_with_three := by
 refine F.dfn hm hb sc_with_three (by intro ts M Q h; unfold sp_with_three at h; first | (split at h <;> first | rfl | exact h.elim) | (obtain ⟨_, _, _, _, _, rfl, _⟩ := h; rfl) | (obtain ⟨_, _, _, _, rfl, _⟩ := h; rfl) | (obtain ⟨_, _, _, rfl, _⟩ := h; rfl) | (obtain ⟨_, _, rfl, _⟩ := h; rfl) | (obtain ⟨_, rfl, _⟩ := h; rfl)) ⟨_, fun cdv A outer s H E hr => (ss_cons (s_set (i := 2) (h_ix (hv 0) (hv 1)) sc_with_three.nd) (ss_cons (s_set (i := 3) (h_ix (hv 0) (h_bin op3_add (hv 1) h_int)) sc_with_three.nd) (ss_cons (s_set (i := 4) (h_ix (hv 0) (h_bin op3_add (hv 1) h_int)) sc_with_three.nd) (ss_one (s_ret (h_bin op3_add (h_bin op3_add (h_slice (hv 0) o_none (o_some (hv 1))) (h_tup (a_cons (h_call D_signed hr (a_cons (hv 3) (a_cons (hv 4) a_nil))) (a_cons (h_call D_signed hr (a_cons (hv 2) (a_cons (hv 3) a_nil))) (a_cons (h_call D_signed hr (a_cons (hv 3) (a_cons (hv 2) a_nil))) a_nil))))) (h_slice (hv 0) (o_some (h_bin op3_add (hv 1) h_int)) o_none))))))), fun ts M Q h => ?_⟩
 unfold sp_with_three at h
 split at h
 · rename_i w a
   obtain ⟨ws, rfl, sm, h0, h1, h⟩ := h
   walk_at "rd"
   simp only [gI_at (w := ws) (a := a) h0 (by lia), gI_at (w := ws) (a := a + 1) (by lia) (by lia), gI_at (w := ws) (a := a + 2) (by lia) (by lia)]
   simp only [cutT_to' _ _ h0, cutT_from' _ _ (show 0 ≤ a + 3 by lia), ← List.map_take, ← List.map_drop, List.length_map]
   have hl := sm.1
   refine ⟨by decide, line_len' (by rw [List.length_take]; lia), line_len' (by rw [List.length_take, List.length_drop]; lia), ?_⟩
   unfold threeL at h
   rw [List.map_append, List.map_append] at h
   exact rt3_here h
 · exact h.elim
noncomputable def sp_with_in : Sp3 := fun ts M Q => match ts with
 | [.int n, .tup w, .int a, .int l] => ∃ ws : List Int, w = ws.map .int ∧ Sm ws ∧ 0 ≤ a ∧ a ≤ (ws.length : Int) ∧ LetOK n l ∧ ws.length + 2 ≤ 4000 ∧ Q (.tup ((inL ws a l).map .int)) M
 | _ => False
theorem ok_with_in {P : Program} {w : World} {K : PySem.W.Frag} {mg : Str → Option Value} {base : Heap} {f : Addr} {fd : FuncData} {n : Nat}  (F : Fun K "with_in" "with_in" s_with_in f fd) (hm : mg "with_in" = some (.ref f)) (hb : Binds K fd ["strands", "word", "at", "letter"] []) (Z : Zs mg) (D_is_letter : Df P w K mg base n "is_letter" ["strands", "letter"] sp_is_letter) : Df P w K mg base (n + 1) "with_in" ["strands", "word", "at", "letter"] sp_with_in := by
 obtain ⟨tk_MOST_LETTERS_IN_STEPS, c_MOST_LETTERS_IN_STEPS⟩ := Z.c_MOST_LETTERS_IN_STEPS
 refine F.dfn hm hb sc_with_in (by intro ts M Q h; unfold sp_with_in at h; first | (split at h <;> first | rfl | exact h.elim) | (obtain ⟨_, _, _, _, _, rfl, _⟩ := h; rfl) | (obtain ⟨_, _, _, _, rfl, _⟩ := h; rfl) | (obtain ⟨_, _, _, rfl, _⟩ := h; rfl) | (obtain ⟨_, _, rfl, _⟩ := h; rfl) | (obtain ⟨_, rfl, _⟩ := h; rfl)) ⟨_, fun cdv A outer s H E hr => (ss_cons (s_if (HW.ht (w_or (h_not (h_tchain op3_le op3_le h_int (hv 2) (h_callB call3_len Z.b_len PySem.boot_len (a_cons (hv 1) a_nil)))) (w_or1 (h_not (h_truth (h_call D_is_letter hr (a_cons (hv 0) (a_cons (hv 3) a_nil)))))))) (ss_one s_never) ss_nil) (ss_cons (s_if (h_tcmp op3_gt (h_bin op3_add (h_callB call3_len Z.b_len PySem.boot_len (a_cons (hv 1) a_nil)) h_int) (h_globI c_MOST_LETTERS_IN_STEPS) (nomark _)) (ss_one s_never) ss_nil) (ss_one (s_ret (h_bin op3_add (h_bin op3_add (h_slice (hv 1) o_none (o_some (hv 2))) (h_tup (a_cons (hv 3) (a_cons (h_un un3_neg (hv 3)) a_nil)))) (h_slice (hv 1) (o_some (hv 2)) o_none)))))), fun ts M Q h => ?_⟩
 unfold sp_with_in at h
 split at h
 · rename_i n w a l
   obtain ⟨ws, rfl, sm, h0, h1, hl, h2, h⟩ := h
   have hlen := sm.1
   have e : isLet n l = true := by
     unfold LetOK at hl
     unfold isLet
     simp only [decide_eq_true_eq, Bool.and_eq_true]
     lia
   refine seq_cut fun K1 hK1 => ?_
   walk_at "rd"
   rw [if_pos h0, if_neg (by lia)]
   unfold sp_is_letter
   dsimp only
   rw [e]
   suffices hK : K1 [some (.int n), some (.tup (ws.map .int)), some (.int a), some (.int l)] M by exact hK
   rw [hK1]
   refine seq_cut fun K2 hK2 => ?_
   walk_at "rd"
   rw [if_neg (by lia), hK2]
   walk_at "rd"
   simp only [cutT_to' _ _ h0, cutT_from' _ _ h0, ← List.map_take, ← List.map_drop, List.length_map]
   unfold inL at h
   rw [List.map_append, List.map_append] at h
   exact ⟨by decide, line_len' (by rw [List.length_take]; lia), line_len' (by rw [List.length_take, List.length_drop]; lia), rt3_here h⟩
 · exact h.elim
theorem canAt_far (a b c : Addr) : canAt [("far", a), ("three", b), ("out", c)] "far" = some a := by rfl
theorem canAt_three (a b c : Addr) : canAt [("far", a), ("three", b), ("out", c)] "three" = some b := by rfl
theorem canAt_out (a b c : Addr) : canAt [("far", a), ("three", b), ("out", c)] "out" = some c := by rfl
noncomputable def sp_done : Sp3 := fun ts M Q => match ts with
 | [.int n, .tup w, .tup [.str z, .int a]] => ∃ ws : List Int, w = ws.map .int ∧ Sm ws ∧ ((z = "far" ∧ canFar ws a = true ∧ Q (.tup ((swapN ws a.toNat).map .int)) M) ∨ (z = "three" ∧ canThree ws a = true ∧ Q (.tup ((threeL ws a).map .int)) M) ∨ (z = "out" ∧ canOut ws a = true ∧ Q (.tup ((ws.take a.toNat ++ ws.drop (a + 2).toNat).map .int)) M))
 | [.int n, .tup w, .tup [.str z, .int a, .int l]] => z = "in" ∧ ∃ ws : List Int, w = ws.map .int ∧ Sm ws ∧ 0 ≤ a ∧ a ≤ (ws.length : Int) ∧ LetOK n l ∧ ws.length + 2 ≤ 4000 ∧ Q (.tup ((inL ws a l).map .int)) M
 | _ => False
theorem ok_done {P : Program} {w : World} {K : PySem.W.Frag} {mg : Str → Option Value} {base : Heap} {f : Addr} {fd : FuncData} {n : Nat}  (F : Fun K "done" "done" s_done f fd) (hm : mg "done" = some (.ref f)) (hb : Binds K fd ["strands", "word", "step"] []) (Z : Zs mg) {dC fC1 fC2 fC3 : Addr} (CN : CanN P w K mg dC fC1 fC2 fC3) (D_with_in : Df P w K mg base n "with_in" ["strands", "word", "at", "letter"] sp_with_in) (D_can_far : Df P w K mg base n "can_far" ["word", "at"] sp_can_far) (D_can_three : Df P w K mg base n "can_three" ["word", "at"] sp_can_three) (D_can_out : Df P w K mg base n "can_out" ["word", "at"] sp_can_out) (D_exchanged : Df P w K mg base n "exchanged" ["row", "at"] sp_exchanged) (D_with_three : Df P w K mg base n "with_three" ["word", "at"] sp_with_three) : Df P w K mg base (n + 1) "done" ["strands", "word", "step"] sp_done := by
 refine F.dfn hm hb sc_done (by intro ts M Q h; unfold sp_done at h; first | (split at h <;> first | rfl | exact h.elim) | (obtain ⟨_, _, _, _, _, rfl, _⟩ := h; rfl) | (obtain ⟨_, _, _, _, rfl, _⟩ := h; rfl) | (obtain ⟨_, _, _, rfl, _⟩ := h; rfl) | (obtain ⟨_, _, rfl, _⟩ := h; rfl) | (obtain ⟨_, rfl, _⟩ := h; rfl)) ⟨_, fun cdv A outer s H E hr => (ss_cons (s_if (HW.ht (w_and (h_tcmp (op3_eq hr.units) (h_callB call3_len Z.b_len PySem.boot_len (a_cons (hv 2) a_nil)) h_int (nomark _)) (w_and1 (h_tcmp (op3_eq hr.units) (h_ix (hv 2) h_int) h_str (nomark _))))) (ss_one (s_ret (h_call D_with_in hr (a_cons (hv 0) (a_cons (hv 1) (a_cons (h_ix (hv 2) h_int) (a_cons (h_ix (hv 2) h_int) a_nil))))))) ss_nil) (ss_cons (s_if (HW.ht (w_or (h_tcmp (op3_ne hr.units) (h_callB call3_len Z.b_len PySem.boot_len (a_cons (hv 2) a_nil)) h_int (nomark _)) (w_or1 (h_tcmp (op3_canNotIn CN.can) (h_ix (hv 2) h_int) (h_globA CN.mc) rfl)))) (ss_one s_never) ss_nil) (ss_cons (s_set (i := 3) (h_ix (hv 2) h_int) sc_done.nd) (ss_cons (s_if (h_not (h_truth (h_canCall (fs := [(fC1, sp_can_far), (fC2, sp_can_three), (fC3, sp_can_out)]) CN.can CN.mc CN.kp (by intro q hq; simp only [List.mem_cons, List.not_mem_nil, or_false] at hq; rcases hq with rfl | rfl | rfl <;> first | exact D_can_far.fnAt CN.m1 | exact D_can_three.fnAt CN.m2 | exact D_can_out.fnAt CN.m3) hr (h_ix (hv 2) h_int) (a_cons (hv 1) (a_cons (hv 3) a_nil))))) (ss_one s_never) ss_nil) (ss_cons (s_if (h_tcmp (op3_eq hr.units) (h_ix (hv 2) h_int) h_str (nomark _)) (ss_one (s_ret (h_call D_exchanged hr (a_cons (hv 1) (a_cons (hv 3) a_nil))))) ss_nil) (ss_cons (s_if (h_tcmp (op3_eq hr.units) (h_ix (hv 2) h_int) h_str (nomark _)) (ss_one (s_ret (h_call D_with_three hr (a_cons (hv 1) (a_cons (hv 3) a_nil))))) ss_nil) (ss_one (s_ret (h_bin op3_add (h_slice (hv 1) o_none (o_some (hv 3))) (h_slice (hv 1) (o_some (h_bin op3_add (hv 3) h_int)) o_none)))))))))), fun ts M Q h => ?_⟩
 unfold sp_done at h
 split at h
 · rename_i n w z a
   obtain ⟨ws, rfl, sm, h⟩ := h
   refine seq_cut fun K1 hK1 => ?_
   walk_at "rd"
   rw [if_neg (by decide), hK1]
   refine seq_cut fun K2 hK2 => ?_
   have key : ∃ f, canAt [("far", fC1), ("three", fC2), ("out", fC3)] z = some f := by
     rcases h with ⟨rfl, _⟩ | ⟨rfl, _⟩ | ⟨rfl, _⟩
     · exact ⟨_, canAt_far _ _ _⟩
     · exact ⟨_, canAt_three _ _ _⟩
     · exact ⟨_, canAt_out _ _ _⟩
   obtain ⟨f0, hf0⟩ := key
   walk_at "rd"
   rw [if_neg (by decide), hf0, if_neg (by simp), hK2]
   refine seq_cut2 fun K3 hK3 => ?_
   rcases h with ⟨rfl, hc, h⟩ | ⟨rfl, hc, h⟩ | ⟨rfl, hc, h⟩
   · walk_at "rd"
     refine ⟨_, canAt_far _ _ _, sp_can_far, .head _, ws, rfl, sm, ?_⟩
     rw [hc]
     suffices hK : K3 [some (.int n), some (.tup (ws.map .int)), some (.tup [.str "far", .int a]), some (.int a)] M by exact hK
     rw [hK3]
     refine seq_cut fun K4 hK4 => ?_
     walk_at "rd"
     have hb : 0 ≤ a ∧ a < (ws.length : Int) - 1 := by
       unfold canFar at hc
       exact of_decide_eq_true (Bool.and_eq_true_iff.mp hc).1
     have hlen := sm.1
     refine ⟨rfl, rfl, Nat.zero_le _, ?_⟩
     rw [if_pos (eqT_refl _ rfl)]
     exact ⟨ws, rfl, hb.1, by lia, by lia, rt3_here h⟩
   · walk_at "rd"
     refine ⟨_, canAt_three _ _ _, sp_can_three, .tail _ (.head _), ws, rfl, sm, ?_⟩
     rw [hc]
     suffices hK : K3 [some (.int n), some (.tup (ws.map .int)), some (.tup [.str "three", .int a]), some (.int a)] M by exact hK
     rw [hK3]
     refine seq_cut fun K4 hK4 => ?_
     walk_at "rd"
     have hb : 0 ≤ a ∧ a < (ws.length : Int) - 2 := by
       unfold canThree at hc
       exact of_decide_eq_true (Bool.and_eq_true_iff.mp hc).1
     refine ⟨rfl, rfl, Nat.zero_le _, ?_⟩
     rw [if_neg (by decide +kernel), hK4]
     refine seq_cut fun K5 hK5 => ?_
     walk_at "rd"
     refine ⟨rfl, rfl, Nat.zero_le _, ?_⟩
     rw [if_pos (eqT_refl _ rfl)]
     exact ⟨ws, rfl, sm, hb.1, by lia, rt3_here h⟩
   · walk_at "rd"
     refine ⟨_, canAt_out _ _ _, sp_can_out, .tail _ (.tail _ (.head _)), ws, rfl, sm, ?_⟩
     rw [hc]
     suffices hK : K3 [some (.int n), some (.tup (ws.map .int)), some (.tup [.str "out", .int a]), some (.int a)] M by exact hK
     rw [hK3]
     refine seq_cut fun K4 hK4 => ?_
     walk_at "rd"
     have hb : 0 ≤ a ∧ a < (ws.length : Int) - 1 := by
       unfold canOut at hc
       exact of_decide_eq_true (Bool.and_eq_true_iff.mp hc).1
     have hlen := sm.1
     refine ⟨rfl, rfl, Nat.zero_le _, ?_⟩
     rw [if_neg (by decide +kernel), hK4]
     refine seq_cut fun K5 hK5 => ?_
     walk_at "rd"
     refine ⟨rfl, rfl, Nat.zero_le _, ?_⟩
     rw [if_neg (by decide +kernel), hK5]
     walk_at "rd"
     simp only [cutT_to' _ _ hb.1, cutT_from' _ _ (show 0 ≤ a + 2 by lia), ← List.map_take, ← List.map_drop, List.length_map]
     rw [List.map_append] at h
     exact ⟨line_len' (by rw [List.length_take, List.length_drop]; lia), rt3_here h⟩
 · rename_i n w z a l
   obtain ⟨rfl, ws, rfl, sm, h0, h1, hl, h2, h⟩ := h
   refine seq_cut fun K1 hK1 => ?_
   walk_at "rd"
   rw [if_pos (by decide)]
   refine ⟨rfl, rfl, Nat.zero_le _, ?_⟩
   rw [if_pos (eqT_refl _ rfl)]
   exact ⟨ws, rfl, sm, h0, h1, hl, h2, rt3_here h⟩
 · exact h.elim
noncomputable def DoneR (n : Int) (ws : List Int) (st : List T) (r : List Int) : Prop :=
 (∃ a, st = [.str "far", .int a] ∧ canFar ws a = true ∧ r = swapN ws a.toNat) ∨ (∃ a, st = [.str "three", .int a] ∧ canThree ws a = true ∧ r = threeL ws a) ∨
 (∃ a, st = [.str "out", .int a] ∧ canOut ws a = true ∧ r = ws.take a.toNat ++ ws.drop (a + 2).toNat) ∨ (∃ a l, st = [.str "in", .int a, .int l] ∧ 0 ≤ a ∧ a ≤ (ws.length : Int) ∧ LetOK n l ∧ ws.length + 2 ≤ 4000 ∧ r = inL ws a l)
noncomputable def sp_stepped : Sp3 := fun ts M Q => match ts with
 | [.int n, .tup w, .tup st] => ∃ ws r : List Int, w = ws.map .int ∧ ws.length ≤ 4000 ∧ 1 ≤ n ∧ n ≤ 6 ∧ WordOK n ws ∧ DoneR n ws st r ∧ Q (.tup (r.map .int)) M
 | _ => False
theorem ok_stepped {P : Program} {w : World} {K : PySem.W.Frag} {mg : Str → Option Value} {base : Heap} {f : Addr} {fd : FuncData} {n : Nat}  (F : Fun K "stepped" "stepped" s_stepped f fd) (hm : mg "stepped" = some (.ref f)) (hb : Binds K fd ["strands", "word", "step"] []) (Z : Zs mg) (D_looked_word : Df P w K mg base n "looked_word" ["strands", "word"] sp_looked_word) (D_done : Df P w K mg base n "done" ["strands", "word", "step"] sp_done) : Df P w K mg base (n + 1) "stepped" ["strands", "word", "step"] sp_stepped := by
 refine F.dfn hm hb sc_stepped (by intro ts M Q h; unfold sp_stepped at h; first | (split at h <;> first | rfl | exact h.elim) | (obtain ⟨_, _, _, _, _, rfl, _⟩ := h; rfl) | (obtain ⟨_, _, _, _, rfl, _⟩ := h; rfl) | (obtain ⟨_, _, _, rfl, _⟩ := h; rfl) | (obtain ⟨_, _, rfl, _⟩ := h; rfl) | (obtain ⟨_, rfl, _⟩ := h; rfl)) ⟨_, fun cdv A outer s H E hr => (ss_cons (s_expr (h_call D_looked_word hr (a_cons (hv 0) (a_cons (hv 1) a_nil)))) (ss_one (s_ret (h_call D_done hr (a_cons (hv 0) (a_cons (hv 1) (a_cons (hv 2) a_nil))))))), fun ts M Q h => ?_⟩
 unfold sp_stepped at h
 split at h
 · rename_i n w st
   obtain ⟨ws, r, rfl, hl, h1, h6, hw, hd, h⟩ := h
   have sm : Sm ws := .of hl h6 hw
   walk_at "rd"
   refine ⟨ws, rfl, hl, h1, h6, hw, ?_⟩
   rcases hd with ⟨a, rfl, hc, rfl⟩ | ⟨a, rfl, hc, rfl⟩ | ⟨a, rfl, hc, rfl⟩ | ⟨a, l, rfl, h0, h2, hl, h3, rfl⟩
   · exact ⟨ws, rfl, sm, .inl ⟨rfl, hc, rt3_here h⟩⟩
   · exact ⟨ws, rfl, sm, .inr (.inl ⟨rfl, hc, rt3_here h⟩)⟩
   · exact ⟨ws, rfl, sm, .inr (.inr ⟨rfl, hc, rt3_here h⟩)⟩
   · exact ⟨rfl, ws, rfl, sm, h0, h2, hl, h3, rt3_here h⟩
 · exact h.elim
theorem while_cut {c : TT3} {b : TS3} {D : Ends3} {ρ : En} {M : MH} (h : ∀ B : TS3, B = b → tWhile3 c B D ρ M) : tWhile3 c b D ρ M := h _ rfl
noncomputable def sp_piece_from : Sp3 := fun ts M Q => match ts with
 | [.tup o, .int b] => ∃ (os : List Int) (n : Int), o = os.map .int ∧ 1 ≤ n ∧ n ≤ 6 ∧ IsP n os ∧ b ∈ range0 n ∧ ∀ r, M r = none → Q (.adr r) (updM M r (.lst ((pcF os n b).map .int)))
 | _ => False
theorem gI_at' {n : Int} {os : List Int} (h : IsP n os) {a : Int} (ha : InM n a) : atI (os.map T.int) a = some (.int (gI os a)) ∧ InM n (gI os a) :=
 ⟨gI_at ha.1 (by rw [h.length_eq, range0_length]; have := ha.2; lia), (gI_in h ha).1⟩
theorem ok_piece_from {P : Program} {w : World} {K : PySem.W.Frag} {mg : Str → Option Value} {base : Heap} {f : Addr} {fd : FuncData} {n : Nat}  (F : Fun K "piece_from" "piece_from" s_piece_from f fd) (hm : mg "piece_from" = some (.ref f)) (hb : Binds K fd ["order", "begin"] []) (Z : Zs mg)  : Df P w K mg base (n + 1) "piece_from" ["order", "begin"] sp_piece_from := by
 refine F.dfn hm hb sc_piece_from (by intro ts M Q h; unfold sp_piece_from at h; first | (split at h <;> first | rfl | exact h.elim) | (obtain ⟨_, _, _, _, _, rfl, _⟩ := h; rfl) | (obtain ⟨_, _, _, _, rfl, _⟩ := h; rfl) | (obtain ⟨_, _, _, rfl, _⟩ := h; rfl) | (obtain ⟨_, _, rfl, _⟩ := h; rfl) | (obtain ⟨_, rfl, _⟩ := h; rfl)) ⟨_, fun cdv A outer s H E hr => (ss_cons (s_set (i := 2) (h_lst (a_cons (hv 1) a_nil)) sc_piece_from.nd) (ss_cons (s_set (i := 3) (h_ix (hv 0) (hv 1)) sc_piece_from.nd) (ss_cons (s_while PassesOwn.never (h_tcmp (op3_ne hr.units) (hv 3) (hv 1) (nomark _)) (ss_cons (s_expr (h_m_append (hv 2) (a_cons (hv 3) a_nil))) (ss_one (s_set (i := 3) (h_ix (hv 0) (hv 3)) sc_piece_from.nd)))) (ss_one (s_ret (h_callB call3_sorted Z.b_sorted PyProof.Rows.boot_sorted (a_cons (hv 2) a_nil))))))), fun ts M Q h => ?_⟩
 unfold sp_piece_from at h
 split at h
 · rename_i o b
   obtain ⟨os, n, rfl, n1, n6, ho, hb, h⟩ := h
   have hbm : InM n b := mem_range0 hb
   obtain ⟨c, hc, hcp⟩ := cyc_is n1 n6 ho hb
   refine seq_cut3 fun K1 hK1 => ?_
   walk_at "rd"
   refine ⟨by decide, fun p hp => ?_⟩
   rw [(gI_at' ho hbm).1]
   dsimp only
   have hMp : (updM M p (MO.lst [T.int b])) p = some (.lst ([b].map .int)) := updM_same
   have hS := Sub.new hp (o := MO.lst [T.int b])
   generalize updM M p (MO.lst [T.int b]) = M1 at hMp hS ⊢
   have ham := (gI_at' ho hbm).2
   generalize gI os b = a0 at hc ham ⊢
   refine while_cut fun C hC => ?_
   unfold tWhile3
   refine ⟨fun m ρ M' => ∃ (a : Int) (acc : List Int), ρ = [some (T.tup (os.map T.int)), some (T.int b), some (T.adr p), some (T.int a)] ∧ InM n a ∧ cyc os b m a acc = some c ∧ M' p = some (.lst (acc.map .int)) ∧ acc.length + m ≤ 8 ∧ Sub M M', ⟨7, a0, [b], rfl, ham, hc, hMp, Nat.le_refl _, hS⟩, ?_⟩
   rintro m ρ M' ⟨a, acc, rfl, ha, hcy, hp1, hal, hS1⟩
   walk_at "rd"
   cases m with
   | zero => cases hcy
   | succ f =>
     refine ite2 (fun ne => ?_) (fun eq => ?_)
     · rw [hC]
       walk_at "rd"
       rw [hp1]
       dsimp only
       rw [(gI_at' ho ha).1]
       dsimp only
       refine ⟨trivial, line_len (by rw [List.length_map]; lia), f, Nat.lt_succ_self _, gI os a, acc ++ [a], rfl, (gI_at' ho ha).2, ?_, by rw [List.map_append]; rfl, by rw [List.length_append, List.length_singleton]; lia, hS1.updF hp⟩
       rw [← hcy]
       exact (if_neg ne).symm
     · have : acc = c := by
         have h2 : (if a = b then some acc else cyc os b f (gI os a) (acc ++ [a])) = some c := hcy
         rw [if_pos (Classical.not_not.mp eq)] at h2
         exact Option.some.inj h2
       subst this
       rw [hK1]
       walk_at "rd"
       rw [hp1]
       refine ⟨acc, rfl, by lia, fun ms m1 m2 r hr => ?_⟩
       have : ms = pcF os n b := by
         refine List.Perm.eq_of_pairwise (fun a b _ _ h1 h2 => Int.le_antisymm h1 h2) m2 ((range0_sorted n).filter _) (m1.trans hcp)
       rw [this]
       exact rt3_sub (h r (none_of hS1 hr)) ((hS1.newr hr).mk1 updM_same)
 · exact h.elim
noncomputable def Lists (M : MH) (as : List Addr) (ls : List (List Int)) : Prop := as.length = ls.length ∧ ∀ (i : Nat) (a : Addr) (l : List Int), as[i]? = some a → ls[i]? = some l → M a = some (.lst (l.map .int))
noncomputable def Fr (M : MH) (as : List Addr) : Prop := ∀ a ∈ as, M a = none
theorem Lists.sub {M M' : MH} {as : List Addr} {ls : List (List Int)} (h : Lists M as ls) (s : Sub M M') : Lists M' as ls := ⟨h.1, fun i a l h1 h2 => s _ _ (h.2 i a l h1 h2)⟩
theorem Lists.nil {M : MH} : Lists M [] [] := ⟨rfl, fun i a l z => by simp at z⟩
theorem Lists.snoc {M : MH} {as : List Addr} {ls : List (List Int)} {a : Addr} {l : List Int} (h : Lists M as ls) (ha : M a = some (.lst (l.map .int))) : Lists M (as ++ [a]) (ls ++ [l]) := by
 refine ⟨by rw [List.length_append, List.length_append, h.1]; rfl, fun i b k h1 h2 => ?_⟩
 by_cases z : i < as.length
 · rw [List.getElem?_append_left z] at h1
   rw [List.getElem?_append_left (by rw [← h.1]; exact z)] at h2
   exact h.2 i b k h1 h2
 · rw [List.getElem?_append_right (by lia)] at h1
   rw [List.getElem?_append_right (by rw [← h.1]; lia), ← h.1] at h2
   obtain ⟨l1, e1⟩ := List.getElem?_eq_some_iff.mp h1
   have e : i - as.length = 0 := by rw [List.length_singleton] at l1; lia
   rw [e] at h1 h2
   obtain rfl := Option.some.inj h1
   obtain rfl := Option.some.inj h2
   exact ha
theorem Fr.snoc {M : MH} {as : List Addr} {a : Addr} (h : Fr M as) (ha : M a = none) : Fr M (as ++ [a]) := fun b hb => by
 rcases List.mem_append.mp hb with z | z
 · exact h b z
 · rw [List.mem_singleton.mp z]; exact ha
theorem ord_isP {n : Int} {w : List Int} (hw : WordOK n w) : IsP n (orderL n w) := by
 refine perm_of_sub _ _ ?_ (fun x hx => ?_) (by rw [orderL_length, range0_length]; exact Nat.le_refl _)
 · rw [orderL_map n w hw]
   refine List.pairwise_map.mpr ((range0_nodup n).imp_of_mem fun {a b} ha hb ne z => ne ?_)
   have ia := mem_range0 ha
   have ib := mem_range0 hb
   have z2 := folL_contr w a
   rw [z, folL_contr w b] at z2
   exact z2.symm
 · have := orderL_mem hw hx
   exact range0_mem this.1 this.2
theorem cyc_acc {o : List Int} {b : Int} : ∀ (f : Nat) (a : Int) (acc c : List Int), cyc o b f a acc = some c → acc.length ≤ c.length
 | 0, _, _, _, h => by cases h
 | f + 1, a, acc, c, h => by
   have h2 : (if a = b then some acc else cyc o b f (gI o a) (acc ++ [a])) = some c := h
   by_cases e : a = b
   · rw [if_pos e] at h2
     rw [Option.some.inj h2]; exact Nat.le_refl _
   · rw [if_neg e] at h2
     have := cyc_acc f _ _ _ h2
     rw [List.length_append, List.length_singleton] at this
     lia
theorem pcF_ne {o : List Int} {n b : Int} (n1 : 1 ≤ n) (n6 : n ≤ 6) (ho : IsP n o) (hb : b ∈ range0 n) : 1 ≤ (pcF o n b).length := by
 obtain ⟨c, h1, h2⟩ := cyc_is n1 n6 ho hb
 rw [← h2.length_eq]
 exact cyc_acc _ _ _ _ h1
noncomputable def sp_pieces : Sp3 := fun ts M Q => match ts with
 | [.tup [.int n, .tup w]] => ∃ ws : List Int, w = ws.map .int ∧ PlOK n ws ∧ ∀ (r : Addr) (as : List Addr) (M' : MH), M r = none → Sub M M' → M' r = some (.lst (as.map T.adr)) → Lists M' as (pcs (orderL n ws) n) → Fr M as → Q (.adr r) M'
 | _ => False
theorem ok_pieces {P : Program} {w : World} {K : PySem.W.Frag} {mg : Str → Option Value} {base : Heap} {f : Addr} {fd : FuncData} {n : Nat}  (F : Fun K "pieces" "pieces" s_pieces f fd) (hm : mg "pieces" = some (.ref f)) (hb : Binds K fd ["plait"] []) (Z : Zs mg) (D_order_of : Df P w K mg base n "order_of" ["plait"] sp_order_of) (D_piece_from : Df P w K mg base n "piece_from" ["order", "begin"] sp_piece_from) : Df P w K mg base (n + 1) "pieces" ["plait"] sp_pieces := by
 refine F.dfn hm hb sc_pieces (by intro ts M Q h; unfold sp_pieces at h; first | (split at h <;> first | rfl | exact h.elim) | (obtain ⟨_, _, _, _, _, rfl, _⟩ := h; rfl) | (obtain ⟨_, _, _, _, rfl, _⟩ := h; rfl) | (obtain ⟨_, _, _, rfl, _⟩ := h; rfl) | (obtain ⟨_, _, rfl, _⟩ := h; rfl) | (obtain ⟨_, rfl, _⟩ := h; rfl)) ⟨_, fun cdv A outer s H E hr => (ss_cons (s_set (i := 1) (h_call D_order_of hr (a_cons (hv 0) a_nil)) sc_pieces.nd) (ss_cons (s_set (i := 2) (h_comp rfl (i_range1 Z.b_range (a_cons (h_callB call3_len Z.b_len PySem.boot_len (a_cons (hv 1) a_nil)) a_nil)) (blk_scope (outer := defScope s_pieces) (N := ["plait", "order", "found"]) (N' := ["begin", "order"]) (ix := [none, some 1]) (by decide +kernel) rfl rfl) bt_name (fun _ _ _ _ _ => pg_name (i := 0) (show List.Nodup (["begin", "order"] : List Str) by decide +kernel) rfl (Or.inl rfl) (Or.inr rfl)) (fun _ _ _ _ _ => ts_nil) (fun _ _ _ _ _ => (h_call D_piece_from hr (a_cons (hv 1) (a_cons (hv 0) a_nil))))) sc_pieces.nd) (ss_one (s_ret (h_comp rfl (i_range1 Z.b_range (a_cons (h_callB call3_len Z.b_len PySem.boot_len (a_cons (hv 1) a_nil)) a_nil)) (blk_scope (outer := defScope s_pieces) (N := ["plait", "order", "found"]) (N' := ["place", "found"]) (ix := [none, some 2]) (by decide +kernel) rfl rfl) bt_name (fun _ _ _ _ _ => pg_name (i := 0) (show List.Nodup (["place", "found"] : List Str) by decide +kernel) rfl (Or.inl rfl) (Or.inr rfl)) (fun _ _ _ _ _ => ts_one (h_tcmp (op3_eq hr.units) (h_ix (h_ix (hv 1) (hv 0)) h_int) (hv 0) (nomark _))) (fun _ _ _ _ _ => (h_ix (hv 1) (hv 0)))))))), fun ts M Q h => ?_⟩
 unfold sp_pieces at h
 split at h
 · rename_i n w
   obtain ⟨ws, rfl, ok, h⟩ := h
   obtain ⟨n1, n6, hl, hw⟩ := id ok
   refine seq_cut2 fun K1 hK1 => ?_
   walk_at "rd"
   have ho := ord_isP (n := n) hw
   have hol : (orderL n ws).length = n.toNat := orderL_length n ws
   refine ⟨ws, rfl, ok, ?_⟩
   dsimp only
   generalize orderL n ws = os at ho hol h ⊢
   rw [List.length_map, hol, show ((n.toNat : Nat) : Int).toNat = n.toNat by lia, rangeT_range0]
   have hrl : (range0 n).length = n.toNat := range0_length n
   refine ⟨by lia, by lia, fun i ys M' => ∃ as : List Addr, ys = as.map T.adr ∧ Lists M' as (((range0 n).take i).map (pcF os n)) ∧ Fr M as ∧ Sub M M', ⟨[], rfl, .nil, fun _ z => absurd z List.not_mem_nil, Sub.refl⟩, fun _ _ _ _ => trivial, by rw [List.length_map, hrl]; exact line_len (by lia), ?_, ?_⟩
   · rintro i x ys M' hx ⟨as, rfl, hL, hF, hS⟩
     obtain ⟨b, hb, rfl⟩ := get_map_int hx
     refine ⟨os, n, rfl, n1, by lia, ho, List.mem_of_getElem? hb, fun r hr => ?_⟩
     refine ⟨as ++ [r], by rw [List.map_append]; rfl, ?_, hF.snoc (none_of hS hr), hS.newr hr⟩
     rw [← take_succ_map (pcF os n) hb]
     exact (hL.sub (Sub.new hr)).snoc updM_same
   · rintro ys M' ⟨as, rfl, hL, hF, hS⟩ q hq
     rw [List.length_map, List.take_length] at hL
     have hMq : (updM M' q (.lst (as.map T.adr))) q = some (.lst (as.map T.adr)) := updM_same
     have hL2 := hL.sub (Sub.new hq (o := .lst (as.map T.adr)))
     have hS2 := hS.newr hq (o := .lst (as.map T.adr))
     generalize updM M' q (.lst (as.map T.adr)) = M1 at hMq hL2 hS2 ⊢
     rw [hK1]; clear hK1
     walk_at "rd"
     have hal : as.length = n.toNat := by rw [hL2.1, List.length_map, hrl]
     rw [hol, show ((n.toNat : Nat) : Int).toNat = n.toNat by lia, rangeT_range0]
     refine ⟨by lia, by lia, fun i ys M2 => (∃ bs : List Addr, ys = bs.map T.adr ∧ Lists M1 bs ((((range0 n).take i).filter fun b => decide (gI (pcF os n b) 0 = b)).map (pcF os n)) ∧ Fr M bs) ∧ M2 = M1, ⟨⟨[], rfl, .nil, fun _ z => absurd z List.not_mem_nil⟩, rfl⟩, fun _ _ _ _ => trivial, by rw [List.length_map, hrl]; exact line_len (by lia), ?_, ?_⟩
     · rintro i x ys M2 hx ⟨⟨bs, rfl, hB, hG⟩, rfl⟩
       obtain ⟨b, hb, rfl⟩ := get_map_int hx
       have hbm := List.mem_of_getElem? hb
       have hbi : b = (i : Int) ∧ i < n.toNat := by
         have hl := (List.getElem?_eq_some_iff.mp hb).1
         rw [hrl] at hl
         unfold range0 at hb
         rw [List.getElem?_map, List.getElem?_range hl] at hb
         exact ⟨(Option.some.inj hb).symm, hl⟩
       obtain ⟨a, ea⟩ : ∃ a, as[i]? = some a := ⟨_, List.getElem?_eq_getElem (by lia)⟩
       have ha := hL2.2 i a (pcF os n b) ea (by rw [List.getElem?_map, hb]; rfl)
       have aa : atI (as.map T.adr) b = some (.adr a) := by rw [hbi.1]; exact atI_nat (by rw [List.getElem?_map, ea]; rfl)
       have a0 : atI ((pcF os n b).map T.int) 0 = some (.int (gI (pcF os n b) 0)) := gI_at (by decide) (by have := pcF_ne n1 (by lia) ho hbm; lia)
       dsimp only
       rw [hMq]
       dsimp only
       rw [aa]
       dsimp only
       rw [ha]
       dsimp only
       rw [a0]
       dsimp only
       rw [filt_snoc (fun b => decide (gI (pcF os n b) 0 = b)) hb]
       refine ⟨by rw [pureT_int], by rw [pureT_int], by rw [depT_int]; decide, ?_⟩
       rw [eqT_int]
       by_cases z : gI (pcF os n b) 0 = b
       · rw [decide_eq_true z, if_pos rfl, if_pos rfl, List.map_append]
         exact ⟨⟨bs ++ [a], by rw [List.map_append]; rfl, hB.snoc ha, hG.snoc (hF a (List.mem_of_getElem? ea))⟩, rfl⟩
       · rw [decide_eq_false z, if_neg (by decide), if_neg (by decide), List.append_nil]
         exact ⟨⟨bs, rfl, hB, hG⟩, rfl⟩
     · rintro ys M2 ⟨⟨bs, rfl, hB, hG⟩, rfl⟩ r hr
       rw [List.length_map, List.take_length] at hB
       exact rt3_here (h r bs _ (none_of hS2 hr) (hS2.newr hr) updM_same (hB.sub (Sub.new hr)) hG)
 · exact h.elim
noncomputable def sp_sign_of : Sp3 := fun ts M Q => match ts with
 | [.int l] => Q (.int (sgI l)) M
 | _ => False
theorem ok_sign_of {P : Program} {w : World} {K : PySem.W.Frag} {mg : Str → Option Value} {base : Heap} {f : Addr} {fd : FuncData} {n : Nat}  (F : Fun K "sign_of" "sign_of" s_sign_of f fd) (hm : mg "sign_of" = some (.ref f)) (hb : Binds K fd ["letter"] []) (Z : Zs mg)  : Df P w K mg base (n + 1) "sign_of" ["letter"] sp_sign_of := by
 refine F.dfn hm hb sc_sign_of (by intro ts M Q h; unfold sp_sign_of at h; first | (split at h <;> first | rfl | exact h.elim) | (obtain ⟨_, _, _, _, _, rfl, _⟩ := h; rfl) | (obtain ⟨_, _, _, _, rfl, _⟩ := h; rfl) | (obtain ⟨_, _, _, rfl, _⟩ := h; rfl) | (obtain ⟨_, _, rfl, _⟩ := h; rfl) | (obtain ⟨_, rfl, _⟩ := h; rfl)) ⟨_, fun cdv A outer s H E hr => (ss_cons (s_if (h_tcmp op3_lt (hv 0) h_int (nomark _)) (ss_one (s_ret (h_un un3_neg h_int))) ss_nil) (ss_one (s_ret h_int))), fun ts M Q h => ?_⟩
 unfold sp_sign_of at h
 split at h
 · rename_i l
   unfold sgI at h
   walk_at "rd"
   refine ite2 (fun c => ?_) (fun c => ?_)
   · rw [if_pos c] at h; exact rt3_here h
   · rw [if_neg c] at h; exact rt3_here h
 · exact h.elim
noncomputable def sp_turns : Sp3 := fun ts M Q => match ts with
 | [.tup [.int n, .tup w]] => ∃ ws : List Int, w = ws.map .int ∧ PlOK n ws ∧ Q (.int ((ws.map sgI).sum)) M
 | _ => False
theorem ok_turns {P : Program} {w : World} {K : PySem.W.Frag} {mg : Str → Option Value} {base : Heap} {f : Addr} {fd : FuncData} {n : Nat}  (F : Fun K "turns" "turns" s_turns f fd) (hm : mg "turns" = some (.ref f)) (hb : Binds K fd ["plait"] []) (Z : Zs mg) (D_looked : Df P w K mg base n "looked" ["plait"] sp_looked) (D_sign_of : Df P w K mg base n "sign_of" ["letter"] sp_sign_of) : Df P w K mg base (n + 1) "turns" ["plait"] sp_turns := by
 refine F.dfn hm hb sc_turns (by intro ts M Q h; unfold sp_turns at h; first | (split at h <;> first | rfl | exact h.elim) | (obtain ⟨_, _, _, _, _, rfl, _⟩ := h; rfl) | (obtain ⟨_, _, _, _, rfl, _⟩ := h; rfl) | (obtain ⟨_, _, _, rfl, _⟩ := h; rfl) | (obtain ⟨_, _, rfl, _⟩ := h; rfl) | (obtain ⟨_, rfl, _⟩ := h; rfl)) ⟨_, fun cdv A outer s H E hr => (ss_cons (s_expr (h_call D_looked hr (a_cons (hv 0) a_nil))) (ss_one (s_ret (h_callB (call3_sum rfl) Z.b_sum PyProof.Rows.boot_sum (a_cons (h_comp rfl (i_seq (h_ix (hv 0) h_int)) (blk_scope (outer := defScope s_turns) (N := ["plait"]) (N' := ["letter"]) (ix := [none]) (by decide +kernel) rfl rfl) bt_name (fun _ _ _ _ _ => pg_name (i := 0) (show List.Nodup (["letter"] : List Str) by decide +kernel) rfl (Or.inl rfl) (Or.inr rfl)) (fun _ _ _ _ _ => ts_nil) (fun _ _ _ _ _ => (h_call D_sign_of hr (a_cons (hv 0) a_nil)))) a_nil))))), fun ts M Q h => ?_⟩
 unfold sp_turns at h
 split at h
 · rename_i n w
   obtain ⟨ws, rfl, ok, h⟩ := h
   have hl := ok.2.2.1
   walk_at "rd"
   refine ⟨ws, rfl, ok, fun i ys M' => ys = ((ws.take i).map sgI).map T.int ∧ M' = M, ⟨rfl, rfl⟩, fun _ _ _ _ => trivial, line_len (by lia), ?_, ?_⟩
   · rintro i x ys M' hx ⟨rfl, rfl⟩
     obtain ⟨l, hx2, rfl⟩ := get_map_int hx
     refine ⟨?_, rfl⟩
     rw [← take_succ_map sgI hx2, List.map_append]; rfl
   · rintro ys M' ⟨rfl, rfl⟩ p hp
     rw [List.take_length, intsT_map]
     exact rt3_sub h (Sub.new hp)
 · exact h.elim
noncomputable def crT (x : Int × Int × Int) : T := .tup [.int x.1, .int x.2.1, .int x.2.2]
noncomputable def sp_crossings : Sp3 := fun ts M Q => match ts with
 | [.tup [.int n, .tup w]] => ∃ ws : List Int, w = ws.map .int ∧ PlOK n ws ∧ ∀ r, M r = none → Q (.adr r) (updM M r (.lst ((crL (range0 n) ws).map crT)))
 | _ => False
theorem ok_crossings {P : Program} {w : World} {K : PySem.W.Frag} {mg : Str → Option Value} {base : Heap} {f : Addr} {fd : FuncData} {n : Nat}  (F : Fun K "crossings" "crossings" s_crossings f fd) (hm : mg "crossings" = some (.ref f)) (hb : Binds K fd ["plait"] []) (Z : Zs mg) (D_sign_of : Df P w K mg base n "sign_of" ["letter"] sp_sign_of) (D_exchanged : Df P w K mg base n "exchanged" ["row", "at"] sp_exchanged) : Df P w K mg base (n + 1) "crossings" ["plait"] sp_crossings := by
 refine F.dfn hm hb sc_crossings (by intro ts M Q h; unfold sp_crossings at h; first | (split at h <;> first | rfl | exact h.elim) | (obtain ⟨_, _, _, _, _, rfl, _⟩ := h; rfl) | (obtain ⟨_, _, _, _, rfl, _⟩ := h; rfl) | (obtain ⟨_, _, _, rfl, _⟩ := h; rfl) | (obtain ⟨_, _, rfl, _⟩ := h; rfl) | (obtain ⟨_, rfl, _⟩ := h; rfl)) ⟨_, fun cdv A outer s H E hr => (ss_cons (s_set (i := 1) (h_tupRange1 Z.b_tuple Z.b_range (a_cons (h_ix (hv 0) h_int) a_nil)) sc_crossings.nd) (ss_cons (s_set (i := 2) (h_lst a_nil) sc_crossings.nd) (ss_cons (s_for PassesOwn.never rfl (i_seq (h_ix (hv 0) h_int)) (g_name (i := 3) sc_crossings.nd) (ss_cons (s_set (i := 4) (h_bin op3_sub (h_callB call3_abs Z.b_abs PyProof.Rows.boot_abs (a_cons (hv 3) a_nil)) h_int) sc_crossings.nd) (ss_cons (s_expr (h_m_append (hv 2) (@a_consT _ _ _ _ _ _ _ (h_tup (a_cons (h_ix (hv 1) (hv 4)) (a_cons (h_ix (hv 1) (h_bin op3_add (hv 4) h_int)) (a_cons (h_call D_sign_of hr (a_cons (hv 3) a_nil)) a_nil)))) a_nil))) (ss_one (s_set (i := 1) (h_call D_exchanged hr (a_cons (hv 1) (a_cons (hv 4) a_nil))) sc_crossings.nd))))) (ss_one (s_ret (hv 2)))))), fun ts M Q h => ?_⟩
 unfold sp_crossings at h
 split at h
 · rename_i n w
   obtain ⟨ws, rfl, ok, h⟩ := h
   obtain ⟨n1, n6, hl, hw⟩ := ok
   refine seq_cut2 fun K1 hK1 => ?_
   walk_at "rd"
   refine ⟨by lia, fun p hp => ?_⟩
   rw [rangeT_range0]
   have hMp : (updM M p (MO.lst [])) p = some (.lst (([] : List (Int × Int × Int)).map crT)) := updM_same
   have hS := Sub.new hp (o := MO.lst [])
   generalize updM M p (MO.lst []) = M1 at hMp hS ⊢
   rw [hK1]; clear hK1
   refine seq_cut fun K2 hK2 => ?_
   refine for_cut fun B hB => ?_
   unfold tFor3
   walk_at "rd"
   refine ⟨fun i ρ M' => (∃ (st : List Int) (dn : List (Int × Int × Int)) (x3 x4 : Option T), ρ = [some (T.tup [T.int n, T.tup (ws.map T.int)]), some (T.tup (st.map T.int)), some (T.adr p), x3, x4] ∧ st.length = n.toNat ∧ dn.length = i ∧ M' p = some (.lst (dn.map crT)) ∧ dn ++ crL st (ws.drop i) = crL (range0 n) ws) ∧ Sub M M', ⟨⟨range0 n, [], _, _, rfl, range0_length n, rfl, hMp, rfl⟩, hS⟩, fun _ _ _ _ => trivial, ?_, ?_⟩
   · rintro i x ρ M' hx ⟨⟨st, dn, x3, x4, rfl, hst, hdl, hpd, he⟩, hS2⟩
     obtain ⟨l, hx2, rfl⟩ := get_map_int hx
     have hil := (List.getElem?_eq_some_iff.mp hx2).1
     obtain ⟨hl1, hl2⟩ := hw l (List.mem_of_getElem? hx2)
     obtain ⟨k, hk⟩ : ∃ k : Nat, l.natAbs = k + 1 := ⟨l.natAbs - 1, by lia⟩
     rw [hB]; clear hB
     refine seq_cut2 fun K3 hK3 => ?_
     walk_at "rd"
     have g0 := gI_at (w := st) (a := (k : Int)) (by lia) (by lia)
     have g1 := gI_at (w := st) (a := (k : Int) + 1) (by lia) (by lia)
     rw [hk, show ((k + 1 : Nat) : Int) - 1 = (k : Int) by lia]
     rw [hpd, g0]
     dsimp only
     rw [g1]
     refine ⟨trivial, ?_⟩
     dsimp only
     show 0 + 1 + 1 + 1 ≤ sizeLine ∧ match M' p with
       | some (MO.lst ts) => ts.length < sizeLine ∧ K3 _ (updM M' p (MO.lst (ts ++ [T.tup [_, _, T.int (sgI l)]])))
       | _ => False
     rw [hpd]
     dsimp only
     refine ⟨by decide, line_len (by rw [List.length_map]; lia), ?_⟩
     rw [hK3]; clear hK3
     walk_at "rd"
     refine ⟨st, rfl, by lia, by lia, by lia, ?_⟩
     dsimp only
     refine ⟨⟨_, dn ++ [(gI st (k : Int), gI st ((k : Int) + 1), sgI l)], _, _, rfl, by rw [swapN_length]; exact hst, by rw [List.length_append, hdl]; rfl, by rw [updM_same, List.map_append]; rfl, ?_⟩, hS2.updF hp⟩
     rw [← he, List.append_assoc]
     congr 1
     have hdrop : ws.drop i = l :: ws.drop (i + 1) := by
       rw [List.drop_eq_getElem_cons hil]
       congr 1
       exact (List.getElem?_eq_some_iff.mp hx2).2
     rw [hdrop]
     show _ = (gI st ((l.natAbs : Int) - 1), gI st (l.natAbs : Int), sgI l) :: crL (swapN st (l.natAbs - 1)) (ws.drop (i + 1))
     rw [hk, show ((k + 1 : Nat) : Int) - 1 = (k : Int) by lia]
     rfl
   · rintro ρ M' ⟨⟨st, dn, x3, x4, rfl, hst, hdl, hpd, he⟩, hS2⟩
     rw [hK2]
     walk_at "rd"
     rw [List.drop_length] at he
     have e : crL st [] = [] := by cases st <;> rfl
     rw [e, List.append_nil] at he
     rw [he] at hpd
     exact rt3_sub (h p hp) (hS2.mk1 hpd)
 · exact h.elim
noncomputable def NumD (kvs : List (Key × T)) (F : Int → Option Int) : Prop := ∀ x : Int, valT kvs (.inl x) = (F x).map T.int
theorem putT_len' (kvs : List (Key × T)) (k : Key) (v : T) : (putT kvs k v).length ≤ kvs.length + 1 := by
 unfold putT
 split
 · rw [List.length_map]; exact Nat.le_succ _
 · rw [List.length_append]; exact Nat.le_refl _
noncomputable def sp_piece_numbers : Sp3 := fun ts M Q => match ts with
 | [.adr p] => ∃ (as : List Addr) (ls : List (List Int)), M p = some (.lst (as.map T.adr)) ∧ Lists M as ls ∧ ls.length ≤ 6 ∧ (∀ l ∈ ls, l.length ≤ 6) ∧ ∀ r kvs, M r = none → NumD kvs (numF ls ls.length) → Q (.adr r) (updM M r (.dk kvs))
 | _ => False
theorem ok_piece_numbers {P : Program} {w : World} {K : PySem.W.Frag} {mg : Str → Option Value} {base : Heap} {f : Addr} {fd : FuncData} {n : Nat}  (F : Fun K "piece_numbers" "piece_numbers" s_piece_numbers f fd) (hm : mg "piece_numbers" = some (.ref f)) (hb : Binds K fd ["parts"] []) (Z : Zs mg)  : Df P w K mg base (n + 1) "piece_numbers" ["parts"] sp_piece_numbers := by
 refine F.dfn hm hb sc_piece_numbers (by intro ts M Q h; unfold sp_piece_numbers at h; first | (split at h <;> first | rfl | exact h.elim) | (obtain ⟨_, _, _, _, _, rfl, _⟩ := h; rfl) | (obtain ⟨_, _, _, _, rfl, _⟩ := h; rfl) | (obtain ⟨_, _, _, rfl, _⟩ := h; rfl) | (obtain ⟨_, _, rfl, _⟩ := h; rfl) | (obtain ⟨_, rfl, _⟩ := h; rfl)) ⟨_, fun cdv A outer s H E hr => (ss_cons (s_set (i := 1) h_dicK sc_piece_numbers.nd) (ss_cons (s_for PassesOwn.never rfl (i_enum Z.b_enumerate (hv 0)) (g_tup (n := 2) rfl (gs_cons (g_name (i := 2) sc_piece_numbers.nd) (gs_cons (g_name (i := 3) sc_piece_numbers.nd) gs_nil))) (ss_one (s_for PassesOwn.never rfl (i_seq (hv 3)) (g_name (i := 4) sc_piece_numbers.nd) (ss_one (s_dpk hr.units (hv 2) (hv 1) (hv 4)))))) (ss_one (s_ret (hv 1))))), fun ts M Q h => ?_⟩
 unfold sp_piece_numbers at h
 split at h
 · rename_i p
   obtain ⟨as, ls, hp, hL, h6, hl6, h⟩ := h
   refine seq_cut2 fun K1 hK1 => ?_
   walk_at "rd"
   intro d hd
   have hMd : (updM M d (MO.dk [])) d = some (.dk []) := updM_same
   have hS := Sub.new hd (o := MO.dk [])
   generalize updM M d (MO.dk []) = M1 at hMd hS ⊢
   refine for_cut fun B hB => ?_
   unfold tFor3
   walk_at "rd"
   rw [hS _ _ hp]
   dsimp only
   refine ⟨fun i ρ M' => (∃ (x2 x3 x4 : Option T), ρ = [some (T.adr p), some (T.adr d), x2, x3, x4]) ∧ (∃ kvs, M' d = some (.dk kvs) ∧ NumD kvs (numF ls i) ∧ kvs.length ≤ 6 * i) ∧ Sub M M', ⟨⟨_, _, _, rfl⟩, ⟨[], hMd, fun _ => rfl, Nat.le_refl _⟩, hS⟩, ?_, ?_, ?_⟩
   · rintro i ρ M' ⟨_, _, hS2⟩
     exact hS2 _ _ hp
   · rintro i x ρ M' hx ⟨⟨x2, x3, x4, rfl⟩, ⟨kvs, hk, hN, hkl⟩, hS2⟩
     obtain ⟨t, hx2, rfl⟩ := enT_get hx
     obtain ⟨a, ea, rfl⟩ : ∃ a, as[i]? = some a ∧ t = .adr a := by
       rw [List.getElem?_map] at hx2
       cases e : as[i]? with
       | none => rw [e] at hx2; cases hx2
       | some a => rw [e] at hx2; exact ⟨a, rfl, (Option.some.inj hx2).symm⟩
     have hil := (List.getElem?_eq_some_iff.mp ea).1
     obtain ⟨l, el⟩ : ∃ l, ls[i]? = some l := ⟨_, List.getElem?_eq_getElem (by rw [← hL.1]; exact hil)⟩
     have ha := hL.2 i a l ea el
     have hll := hl6 l (List.mem_of_getElem? el)
     have hi6 : i < 6 := by have := hL.1; lia
     dsimp only
     refine ⟨rfl, rfl, ?_⟩
     rw [hB]; clear hB
     refine for_cut fun B2 hB2 => ?_
     unfold tFor3
     walk_at "rd"
     rw [hS2 _ _ ha]
     dsimp only
     refine ⟨fun j ρ M2 => (∃ (x4 : Option T), ρ = [some (T.adr p), some (T.adr d), some (T.int i), some (T.adr a), x4]) ∧ (∃ kvs, M2 d = some (.dk kvs) ∧ NumD kvs (fun x => if x ∈ l.take j then some (i : Int) else numF ls i x) ∧ kvs.length ≤ 6 * i + j) ∧ Sub M M2, ⟨⟨_, rfl⟩, ⟨kvs, hk, fun x => by rw [hN x]; rfl, hkl⟩, hS2⟩, ?_, ?_, ?_⟩
     · rintro j ρ M2 ⟨_, _, hS3⟩
       exact hS3 _ _ ha
     · rintro j y ρ M2 hy ⟨⟨x4, rfl⟩, ⟨kvs2, hk2, hN2, hkl2⟩, hS3⟩
       obtain ⟨x, hy2, rfl⟩ := get_map_int hy
       have hjl := (List.getElem?_eq_some_iff.mp hy2).1
       rw [hB2]
       walk_at "rd"
       rw [hk2]
       dsimp only
       refine ⟨.inl x, rfl, line_len (by lia), ⟨_, rfl⟩, ⟨_, rfl, fun z => ?_, by have := putT_len' kvs2 (.inl x) (.int i); lia⟩, hS3.updF hd⟩
       rw [valT_put, hN2 z]
       have ht : l.take (j + 1) = l.take j ++ [x] := by rw [List.take_add_one, hy2]; rfl
       rw [ht]
       dsimp only
       by_cases c : z = x
       · subst c
         rw [if_pos rfl, if_pos (List.mem_append.mpr (.inr (List.mem_singleton.mpr rfl)))]; rfl
       · rw [if_neg (fun q => c (Sum.inl.inj q))]
         by_cases c2 : z ∈ l.take j
         · rw [if_pos c2, if_pos (List.mem_append.mpr (.inl c2))]
         · rw [if_neg c2, if_neg (fun q => (List.mem_append.mp q).elim c2 (fun q => c (List.mem_singleton.mp q)))]
     · rintro ρ M2 ⟨⟨x4, rfl⟩, ⟨kvs2, hk2, hN2, hkl2⟩, hS3⟩
       rw [List.length_map, List.take_length] at hN2
       rw [List.length_map] at hkl2
       refine ⟨⟨_, _, _, rfl⟩, ⟨kvs2, hk2, fun z => ?_, by lia⟩, ?_⟩
       · rw [hN2 z]
         show _ = Option.map T.int (if z ∈ ls.getD i [] then some (i : Int) else numF ls i z)
         rw [List.getD_eq_getElem?_getD, el]; rfl
       · exact hS3
   · rintro ρ M' ⟨⟨x2, x3, x4, rfl⟩, ⟨kvs, hk, hN, hkl⟩, hS2⟩
     rw [hK1]
     walk_at "rd"
     rw [enT_length, List.length_map, hL.1] at hN
     exact rt3_sub (h d kvs hd hN) (hS2.mk1 hk)
 · exact h.elim
theorem crL_mem {n : Int} : ∀ (ws st : List Int), IsP n st → WordOK n ws → 0 ≤ n → ∀ x ∈ crL st ws, x.1 ∈ range0 n ∧ x.2.1 ∈ range0 n
 | [], st, _, _, _, x, hx => by
   have e : crL st [] = [] := by cases st <;> rfl
   rw [e] at hx; cases hx
 | l :: w, st, hst, hw, h0, x, hx => by
   obtain ⟨a, b⟩ := hw l (.head _)
   have hl : st.length = n.toNat := by rw [hst.length_eq, range0_length]
   have hx2 : x ∈ (gI st ((l.natAbs : Int) - 1), gI st (l.natAbs : Int), sgI l) :: crL (swapN st (l.natAbs - 1)) w := hx
   rcases List.mem_cons.mp hx2 with e | e
   · subst e
     have g1 := gI_rngI hst (k := (l.natAbs : Int) - 1) (by lia) (by lia)
     have g2 := gI_rngI hst (k := (l.natAbs : Int)) (by lia) (by lia)
     exact ⟨range0_mem g1.1 g1.2, range0_mem g2.1 g2.2⟩
   · refine crL_mem w _ ?_ (fun y hy => hw y (.tail _ hy)) h0 x e
     rw [swapN_swapL st l (by lia)]
     exact (swapL_perm st l (by unfold LetOK; rw [hl]; lia)).trans hst
theorem crL_len : ∀ (ws st : List Int), (crL st ws).length = ws.length
 | [], st => by cases st <;> rfl
 | l :: w, st => by
   show ((gI st ((l.natAbs : Int) - 1), gI st (l.natAbs : Int), sgI l) :: crL (swapN st (l.natAbs - 1)) w).length = _
   rw [List.length_cons, List.length_cons, crL_len w]
theorem take_succ_snoc {α : Type} {L : List α} {i : Nat} {x : α} (h : L[i]? = some x) : L.take (i + 1) = L.take i ++ [x] := by rw [List.take_add_one, h]; rfl
theorem dt_ne {M : MH} {d a : Addr} {kvs : List (List Key × T)} {ts : List T} (hd : M d = some (.dt kvs)) (ha : M a = some (.lst ts)) : a ≠ d := fun z => by rw [z, hd] at ha; cases ha
theorem Lists.updT {M : MH} {as : List Addr} {ls : List (List Int)} {d : Addr} {o : MO} {kvs : List (List Key × T)} (h : Lists M as ls) (hd : M d = some (.dt kvs)) : Lists (updM M d o) as ls := ⟨h.1, fun i a l h1 h2 => by
 rw [updM_ne (dt_ne hd (h.2 i a l h1 h2))]
 exact h.2 i a l h1 h2⟩
noncomputable def sp_windings : Sp3 := fun ts M Q => match ts with
 | [.tup [.int n, .tup w]] => ∃ ws : List Int, w = ws.map .int ∧ PlOK n ws ∧ ∀ (r : Addr) (M' : MH), M r = none → Sub M M' → M' r = some (.lst ((windL n ws (crL (range0 n) ws)).map crT)) → Q (.adr r) M'
 | _ => False
theorem ok_windings {P : Program} {w : World} {K : PySem.W.Frag} {mg : Str → Option Value} {base : Heap} {f : Addr} {fd : FuncData} {n : Nat}  (F : Fun K "windings" "windings" s_windings f fd) (hm : mg "windings" = some (.ref f)) (hb : Binds K fd ["plait"] []) (Z : Zs mg) (D_pieces : Df P w K mg base n "pieces" ["plait"] sp_pieces) (D_piece_numbers : Df P w K mg base n "piece_numbers" ["parts"] sp_piece_numbers) (D_crossings : Df P w K mg base n "crossings" ["plait"] sp_crossings) : Df P w K mg base (n + 1) "windings" ["plait"] sp_windings := by
 refine F.dfn hm hb sc_windings (by intro ts M Q h; unfold sp_windings at h; first | (split at h <;> first | rfl | exact h.elim) | (obtain ⟨_, _, _, _, _, rfl, _⟩ := h; rfl) | (obtain ⟨_, _, _, _, rfl, _⟩ := h; rfl) | (obtain ⟨_, _, _, rfl, _⟩ := h; rfl) | (obtain ⟨_, _, rfl, _⟩ := h; rfl) | (obtain ⟨_, rfl, _⟩ := h; rfl)) ⟨_, fun cdv A outer s H E hr => (ss_cons (s_set (i := 1) (h_call D_pieces hr (a_cons (hv 0) a_nil)) sc_windings.nd) (ss_cons (s_set (i := 2) h_dicT sc_windings.nd) (ss_cons (s_for PassesOwn.never rfl (i_range1 Z.b_range (a_cons (h_callB call3_len Z.b_len PySem.boot_len (a_cons (hv 1) a_nil)) a_nil)) (g_name (i := 3) sc_windings.nd) (ss_one (s_for PassesOwn.never rfl (i_range2 Z.b_range (a_cons (h_bin op3_add (hv 3) h_int) (a_cons (h_callB call3_len Z.b_len PySem.boot_len (a_cons (hv 1) a_nil)) a_nil))) (g_name (i := 4) sc_windings.nd) (ss_one (s_dpt hr.units h_int (hv 2) (a_cons (hv 3) (a_cons (hv 4) a_nil))))))) (ss_cons (s_set (i := 5) (h_call D_piece_numbers hr (a_cons (hv 1) a_nil)) sc_windings.nd) (ss_cons (s_for PassesOwn.never rfl (i_seq (h_call D_crossings hr (a_cons (hv 0) a_nil))) (g_tup (n := 3) rfl (gs_cons (g_name (i := 6) sc_windings.nd) (gs_cons (g_name (i := 7) sc_windings.nd) (gs_cons (g_name (i := 8) sc_windings.nd) gs_nil)))) (ss_cons (s_set (i := 3) (h_callB (call3_min rfl) Z.b_min PyProof.Rows.boot_min (a_cons (h_dgk hr.units (hv 5) (hv 6)) (a_cons (h_dgk hr.units (hv 5) (hv 7)) a_nil))) sc_windings.nd) (ss_cons (s_set (i := 4) (h_callB (call3_max rfl) Z.b_max PyProof.Rows.boot_max (a_cons (h_dgk hr.units (hv 5) (hv 6)) (a_cons (h_dgk hr.units (hv 5) (hv 7)) a_nil))) sc_windings.nd) (ss_one (s_if (h_tcmp (op3_ne hr.units) (hv 3) (hv 4) (nomark _)) (ss_one (s_augDT 8 hr.units ip_add (hv 2) (a_cons (hv 3) (a_cons (hv 4) a_nil)))) ss_nil))))) (ss_one (s_ret (h_comp rfl (i_keys (hv 2)) (blk_scope (outer := defScope s_windings) (N := ["plait", "parts", "sums", "one", "other", "numbers", "first", "second", "sign"]) (N' := ["one", "other", "sums"]) (ix := [none, none, some 2]) (by decide +kernel) rfl rfl) bt_tup2 (fun _ _ _ _ _ => pg_tup rfl (pgs_cons (pg_name (i := 0) (show List.Nodup (["one", "other", "sums"] : List Str) by decide +kernel) rfl (Or.inl rfl) (Or.inr rfl)) (pgs_cons (pg_name (i := 1) (show List.Nodup (["one", "other", "sums"] : List Str) by decide +kernel) rfl (Or.inl rfl) (Or.inr rfl)) pgs_nil))) (fun _ _ _ _ _ => ts_nil) (fun _ _ _ _ _ => (h_tup (a_cons (hv 0) (a_cons (hv 1) (a_cons (h_bin op3_div (h_dgz hr.units (hv 2) (a_cons (hv 0) (a_cons (hv 1) a_nil))) h_int) a_nil))))))))))))), fun ts M Q h => ?_⟩
 unfold sp_windings at h
 split at h
 · rename_i n w
   obtain ⟨ws, rfl, ok, h⟩ := h
   obtain ⟨n1, n6, hl, hw⟩ := id ok
   refine seq_cut2 fun K1 hK1 => ?_
   walk_at "rd"
   refine ⟨ws, rfl, ok, fun r as M0 hr hS0 hr0 hL hF => ?_⟩
   intro d hd
   obtain ⟨hm6, hl6, nu, hnu, _⟩ := pcs_nu n1 n6 hw
   unfold windL at h
   generalize pcs (orderL n ws) n = ls at hL h hm6 hl6 hnu
   have hdM : M d = none := none_of hS0 hd
   have hMd : (updM M0 d (MO.dt [])) d = some (.dt (dKT (fun _ _ => 0) (prsU ls.length 0))) := updM_same
   have hS1 := Sub.new hd (o := MO.dt [])
   generalize updM M0 d (MO.dt []) = M1 at hMd hS1 ⊢
   have hr1 := hS1 _ _ hr0
   have hL1 := hL.sub hS1
   have hS := hS0.trans hS1
   have hlas : as.length = ls.length := hL.1
   clear hS0 hS1 hd hr0 hL
   rw [hK1]; clear hK1
   refine seq_cut fun K2 hK2 => ?_
   refine for_cut fun B hB => ?_
   unfold tFor3
   walk_at "rd"
   rw [hr1]
   dsimp only
   rw [List.length_map, hlas]
   refine ⟨by lia, by lia, ?_⟩
   refine ⟨fun i ρ M' => (∃ (x3 x4 : Option T), ρ = [some (T.tup [T.int n, T.tup (ws.map T.int)]), some (T.adr r), some (T.adr d), x3, x4, none, none, none, none]) ∧ M' d = some (.dt (dKT (fun _ _ => 0) (prsU ls.length i))) ∧ M' r = some (.lst (as.map T.adr)) ∧ Lists M' as ls ∧ Sub M M', ⟨⟨_, _, rfl⟩, hMd, hr1, hL1, hS⟩, fun _ _ _ _ => trivial, ?_, ?_⟩
   · rintro i x ρ M' hx ⟨⟨x3, x4, rfl⟩, hd', hr', hL', hS'⟩
     obtain ⟨hil, rfl⟩ := rangeT0_get hx
     have hil : i < ls.length := by lia
     rw [hB]; clear hB
     refine for_cut fun B2 hB2 => ?_
     unfold tFor3
     walk_at "rd"
     rw [hr']
     dsimp only
     rw [List.length_map, hlas]
     refine ⟨⟨by lia, by lia, by lia, by lia⟩, fun j ρ M2 => (∃ (x4 : Option T), ρ = [some (T.tup [T.int n, T.tup (ws.map T.int)]), some (T.adr r), some (T.adr d), some (T.int i), x4, none, none, none, none]) ∧ M2 d = some (.dt (dKT (fun _ _ => 0) (prsU ls.length i ++ (prsI ls.length i).take j))) ∧ M2 r = some (.lst (as.map T.adr)) ∧ Lists M2 as ls ∧ Sub M M2, ⟨⟨_, rfl⟩, by rw [List.take_zero, List.append_nil]; exact hd', hr', hL', hS'⟩, fun _ _ _ _ => trivial, ?_, ?_⟩
     · rintro j y ρ M2 hy ⟨⟨x4, rfl⟩, hd2, hr2, hL2, hS2⟩
       obtain ⟨hj, rfl⟩ := rangeT_get hy
       rw [hB2]
       walk_at "rd"
       rw [hd2]
       dsimp only
       have hp : (prsI ls.length i)[j]? = some (i, i + 1 + j) := by
         unfold prsI
         rw [List.getElem?_map, List.getElem?_range (by lia)]; rfl
       have ek : ([T.int (i : Int), T.int ((i : Int) + 1 + (j : Int))] : List T) = (kk2 (i, i + 1 + j)).map keyT := by
         show _ = [T.int ((i : Nat) : Int), T.int ((i + 1 + j : Nat) : Int)]
         rw [show ((i + 1 + j : Nat) : Int) = (i : Int) + 1 + (j : Int) by lia]
       have hn : (i, i + 1 + j) ∉ prsU ls.length i ++ (prsI ls.length i).take j := fun z => by
         rcases List.mem_append.mp z with z | z
         · exact absurd (mem_prsU.mp z).1 (Nat.lt_irrefl _)
         · unfold prsI at z
           rw [← List.map_take, List.take_range] at z
           obtain ⟨k, hk, e⟩ := List.mem_map.mp z
           have := List.mem_range.mp hk
           injection e with _ e
           lia
       refine ⟨by decide, kk2 (i, i + 1 + j), ek, ?_, ?_⟩
       · unfold dKT
         rw [List.length_map, List.length_append]
         have h1 := prsU_len hm6 i (by lia)
         have h2 := List.length_take_le j (prsI ls.length i)
         exact line_len (by lia)
       · rw [putT_new hn, List.append_assoc, ← take_succ_snoc hp]
         exact ⟨⟨_, rfl⟩, rfl, by rw [updM_ne (dt_ne hd2 hr2)]; exact hr2, hL2.updT hd2, hS2.updF hdM⟩
     · rintro ρ M2 ⟨⟨x4, rfl⟩, hd2, hr2, hL2, hS2⟩
       refine ⟨⟨_, _, rfl⟩, ?_, hr2, hL2, hS2⟩
       rw [prsU_succ, hd2]
       congr 4
       rw [rangeT_length]
       exact List.take_of_length_le (by rw [prsI_len]; lia)
   · rintro ρ M' ⟨⟨x3, x4, rfl⟩, hd', hr', hL', hS'⟩
     rw [rangeT_length, show ((ls.length : Nat) : Int).toNat = ls.length by lia] at hd'
     change M' d = some (.dt (dKT (fun _ _ => 0) (prs ls.length))) at hd'
     clear hB hMd hr1 hL1 hS
     rw [hK2]; clear hK2
     refine seq_cut fun K3 hK3 => ?_
     walk_at "rd"
     refine ⟨as, ls, hr', hL', hm6, hl6, fun nd kvs hnd hN => ?_⟩
     have hndM : M nd = none := none_of hS' hnd
     have hS1 := Sub.new hnd (o := MO.dk kvs)
     have hMn : (updM M' nd (MO.dk kvs)) nd = some (.dk kvs) := updM_same
     have hd2 := hS1 _ _ hd'
     have hS := hS'.trans hS1
     generalize updM M' nd (MO.dk kvs) = M2 at hMn hd2 hS ⊢
     clear hS1 hS' hd' hL' hr' hnd
     dsimp only
     rw [hK3]; clear hK3
     refine seq_cut fun K4 hK4 => ?_
     refine for_cut fun B hB => ?_
     unfold tFor3
     walk_at "rd"
     refine ⟨ws, rfl, ok, fun c hc => ?_⟩
     have hcM : M c = none := none_of hS hc
     have hS1 := Sub.new hc (o := MO.lst ((crL (range0 n) ws).map crT))
     have hMc : (updM M2 c (MO.lst ((crL (range0 n) ws).map crT))) c = some (.lst ((crL (range0 n) ws).map crT)) := updM_same
     have hMn := hS1 _ _ hMn
     have hd2 := hS1 _ _ hd2
     have hS := hS.trans hS1
     generalize updM M2 c (MO.lst ((crL (range0 n) ws).map crT)) = M3 at hMc hMn hd2 hS ⊢
     clear hS1
     have hCm := crL_mem (n := n) ws (range0 n) (List.Perm.refl _) hw (by lia)
     have hCl := crL_len ws (range0 n)
     generalize crL (range0 n) ws = C at hMc hCm hCl h ⊢
     dsimp only
     rw [hMc]
     dsimp only
     refine ⟨fun i ρ M' => (∃ (x3 x4 x6 x7 x8 : Option T), ρ = [some (T.tup [T.int n, T.tup (ws.map T.int)]), some (T.adr r), some (T.adr d), x3, x4, some (T.adr nd), x6, x7, x8]) ∧ M' d = some (.dt (dKT (fun a b => winS ls a b (C.take i)) (prs ls.length))) ∧ M' nd = some (.dk kvs) ∧ M' c = some (.lst (C.map crT)) ∧ Sub M M', ⟨⟨_, _, _, _, _, rfl⟩, hd2, hMn, hMc, hS⟩, fun _ _ _ z => z.2.2.2.1, ?_, ?_⟩
     · rintro i x ρ M' hx ⟨⟨x3, x4, x6, x7, x8, rfl⟩, hd3, hn3, hc3, hS3⟩
       obtain ⟨⟨f1, s1, g1⟩, hx2, rfl⟩ : ∃ y, C[i]? = some y ∧ crT y = x := by
         rw [List.getElem?_map] at hx
         exact Option.map_eq_some_iff.mp hx
       obtain ⟨m1, m2⟩ := hCm _ (List.mem_of_getElem? hx2)
       dsimp only at m1 m2
       obtain ⟨l1, v1, u1⟩ := hnu f1 m1
       obtain ⟨l2, v2, u2⟩ := hnu s1 m2
       unfold crT
       dsimp only
       refine ⟨rfl, rfl, ?_⟩
       rw [hB]; clear hB
       refine seq_cut2 fun K5 hK5 => ?_
       walk_at "rd"
       rw [hn3]
       dsimp only
       have e1 : valT kvs (.inl f1) = some (.int (nu f1)) := by rw [hN f1, v1]; rfl
       have e2 : valT kvs (.inl s1) = some (.int (nu s1)) := by rw [hN s1, v2]; rfl
       refine ⟨.inl f1, _, rfl, e1, .inl s1, _, rfl, e2, .inl f1, _, rfl, e1, .inl s1, _, rfl, e2, ?_⟩
       have q1 : (if (nu s1 : Int) < nu f1 then (nu s1 : Int) else nu f1) = ((if nu s1 < nu f1 then nu s1 else nu f1 : Nat) : Int) := by split <;> split <;> lia
       have q2 : (if (nu s1 : Int) > nu f1 then (nu s1 : Int) else nu f1) = ((if nu s1 > nu f1 then nu s1 else nu f1 : Nat) : Int) := by split <;> split <;> lia
       rw [q1]
       dsimp only
       rw [q2]
       generalize ha : (if nu s1 < nu f1 then nu s1 else nu f1) = a
       generalize hb : (if nu s1 > nu f1 then nu s1 else nu f1) = b
       have hw2 : ∀ a' b' : Nat, (a', b') ∈ prs ls.length → winT ls a' b' (f1, s1, g1) = if a ≠ b ∧ a' = a ∧ b' = b then g1 else 0 := fun a' b' hm => by
         obtain ⟨z1, z2, z3⟩ := mem_prsU.mp hm
         unfold winT
         dsimp only
         have : (f1 ∈ ls.getD a' [] ∧ s1 ∈ ls.getD b' [] ∨ s1 ∈ ls.getD a' [] ∧ f1 ∈ ls.getD b' []) ↔ (a ≠ b ∧ a' = a ∧ b' = b) := by
           rw [u1 a' (by lia), u2 b' z3, u2 a' (by lia), u1 b' z3, ← ha, ← hb]
           split <;> split <;> lia
         exact ite_congr (propext this) (fun _ => rfl) (fun _ => rfl)
       have hab : a ≠ b → (a, b) ∈ prs ls.length := fun z => mem_prsU.mpr (by rw [← ha, ← hb] at z ⊢; split at z <;> split at z <;> (try (rename_i c1 c2; rw [if_pos c1, if_pos c2])) <;> (try (rename_i c1 c2; rw [if_pos c1, if_neg c2])) <;> (try (rename_i c1 c2; rw [if_neg c1, if_pos c2])) <;> (try (rename_i c1 c2; rw [if_neg c1, if_neg c2])) <;> lia)
       rw [hK5]; clear hK5
       walk_at "rd"
       refine ite2 (fun c0 => ?_) (fun c0 => ?_)
       · have hm := hab (fun z => c0 (by rw [z]))
         rw [hd3]
         dsimp only
         refine ⟨by decide, kk2 (a, b), _, g1, rfl, valT_dKT hm, rfl, ?_, ⟨_, _, _, _, _, rfl⟩, ?_, ?_, ?_, hS3.updF hdM⟩
         · unfold dKT
           rw [List.length_map]
           have := prsU_len hm6 ls.length (Nat.le_refl _)
           exact line_len (by unfold prs; lia)
         · rw [putT_old hm]
           congr 2
           refine dKT_congr fun a' b' hm' => ?_
           rw [winS_take hx2, hw2 a' b' hm']
           dsimp only
           by_cases e : (a', b') = (a, b)
           · injection e with e3 e4
             rw [if_pos (by rw [e3, e4]), if_pos ⟨fun z => c0 (by rw [z]), e3, e4⟩, e3, e4]
           · rw [if_neg e, if_neg (fun z => e (by rw [z.2.1, z.2.2]))]
             lia
         · rw [updM_ne (fun z => by rw [z, hd3] at hn3; cases hn3)]; exact hn3
         · rw [updM_ne (dt_ne hd3 hc3)]; exact hc3
       · have e0 : a = b := by
           by_cases z : a = b
           · exact z
           · exact absurd (fun y : (a : Int) = b => z (by lia)) c0
         refine ⟨⟨_, _, _, _, _, rfl⟩, ?_, hn3, hc3, hS3⟩
         rw [hd3]
         congr 2
         refine dKT_congr fun a' b' hm' => ?_
         rw [winS_take hx2, hw2 a' b' hm', if_neg (fun z => z.1 e0)]
         lia
     · rintro ρ M' ⟨⟨x3, x4, x6, x7, x8, rfl⟩, hd3, hn3, hc3, hS3⟩
       rw [hK4]; clear hK4
       walk_at "rd"
       rw [hd3]
       dsimp only
       rw [List.length_map, List.take_length] at hd3 ⊢
       refine ⟨fun j ys M2 => M2 d = some (.fz (dKT (fun a b => winS ls a b C) (prs ls.length))) ∧ ys = ((prs ls.length).take j).map (fun p => crT ((p.1 : Int), (p.2 : Int), winS ls p.1 p.2 C / 2)) ∧ Sub M M2, ⟨updM_same, rfl, hS3.updF hdM⟩, fun _ _ _ _ => trivial, ?_, ?_, ?_⟩
       · rw [keyTs_length]
         unfold dKT
         rw [List.length_map]
         have := prsU_len hm6 ls.length (Nat.le_refl _)
         exact line_len (by unfold prs; lia)
       · rintro j x ys M2 hx ⟨hz, rfl, hS4⟩
         obtain ⟨p, hx2, rfl⟩ : ∃ p, (prs ls.length)[j]? = some p ∧ T.tup ((kk2 p).map keyT) = x := by
           unfold keyTs dKT at hx
           rw [List.map_map, List.getElem?_map] at hx
           exact Option.map_eq_some_iff.mp hx
         have hm := List.mem_of_getElem? hx2
         have hv := valT_dKT (F := fun a b => winS ls a b C) hm
         show [T.int p.1, T.int p.2].length = 2 ∧ _
         refine ⟨rfl, rfl, by decide, ?_⟩
         rw [hz]
         dsimp only
         refine ⟨kk2 p, _, rfl, hv, ?_⟩
         dsimp only
         refine ⟨⟨by decide, by decide +kernel⟩, by decide, hz, ?_, hS4⟩
         rw [take_succ_snoc hx2, List.map_append]; rfl
       · rintro ys M2 ⟨hz, rfl, hS4⟩ p hp
         rw [keyTs_length]
         unfold dKT
         rw [List.length_map, List.take_length]
         refine rt3_sub (h p _ (none_of hS4 hp) (hS4.newr hp) ?_) Sub.refl
         rw [List.map_map]
         exact updM_same
 · exact h.elim
noncomputable def sp_with_round : Sp3 := fun ts M Q => match ts with
 | [.tup [.int n, .tup w]] => ∃ ws : List Int, w = ws.map .int ∧ ws.length ≤ 16 ∧ mvWhy n ws .round = .ok ∧ Q (ptT (mvTo n ws .round)) M
 | _ => False
theorem ok_with_round {P : Program} {w : World} {K : PySem.W.Frag} {mg : Str → Option Value} {base : Heap} {f : Addr} {fd : FuncData} {n : Nat}  (F : Fun K "with_round" "with_round" s_with_round f fd) (hm : mg "with_round" = some (.ref f)) (hb : Binds K fd ["plait"] []) (Z : Zs mg)  : Df P w K mg base (n + 1) "with_round" ["plait"] sp_with_round := by
 refine F.dfn hm hb sc_with_round (by intro ts M Q h; unfold sp_with_round at h; first | (split at h <;> first | rfl | exact h.elim) | (obtain ⟨_, _, _, _, _, rfl, _⟩ := h; rfl) | (obtain ⟨_, _, _, _, rfl, _⟩ := h; rfl) | (obtain ⟨_, _, _, rfl, _⟩ := h; rfl) | (obtain ⟨_, _, rfl, _⟩ := h; rfl) | (obtain ⟨_, rfl, _⟩ := h; rfl)) ⟨_, fun cdv A outer s H E hr => (ss_cons (s_if (h_not (h_truth (h_ix (hv 0) h_int))) (ss_one s_never) ss_nil) (ss_one (s_ret (h_tup (a_cons (h_ix (hv 0) h_int) (a_cons (h_bin op3_add (h_slice (h_ix (hv 0) h_int) (o_some h_int) o_none) (h_slice (h_ix (hv 0) h_int) o_none (o_some h_int))) a_nil)))))), fun ts M Q h => ?_⟩
 unfold sp_with_round at h
 split at h
 · rename_i n w
   obtain ⟨ws, rfl, hl, hw, h⟩ := h
   walk_at "rd"
   have e : (List.map T.int ws).isEmpty = ws.isEmpty := by cases ws <;> rfl
   rw [e]
   replace hw : (if ws.isEmpty = true then Why.step else Why.ok) = .ok := hw
   replace h : Q (ptT (n, ws.drop 1 ++ ws.take 1)) M := h
   cases c : ws.isEmpty with
   | true => rw [c] at hw; cases hw
   | false =>
     rw [cutT_to' _ _ (by decide), cutT_from' _ _ (by decide), ← List.map_take, ← List.map_drop, ← List.map_append]
     show _ ∧ _ ∧ _
     exact ⟨line_len' (by rw [List.length_map, List.length_map, List.length_drop, List.length_take]; lia), by decide, rt3_here h⟩
 · exact h.elim
noncomputable def sp_with_back : Sp3 := fun ts M Q => match ts with
 | [.tup [.int n, .tup w]] => ∃ ws : List Int, w = ws.map .int ∧ ws.length ≤ 16 ∧ mvWhy n ws .back = .ok ∧ Q (ptT (mvTo n ws .back)) M
 | _ => False
theorem ok_with_back {P : Program} {w : World} {K : PySem.W.Frag} {mg : Str → Option Value} {base : Heap} {f : Addr} {fd : FuncData} {n : Nat}  (F : Fun K "with_back" "with_back" s_with_back f fd) (hm : mg "with_back" = some (.ref f)) (hb : Binds K fd ["plait"] []) (Z : Zs mg)  : Df P w K mg base (n + 1) "with_back" ["plait"] sp_with_back := by
 refine F.dfn hm hb sc_with_back (by intro ts M Q h; unfold sp_with_back at h; first | (split at h <;> first | rfl | exact h.elim) | (obtain ⟨_, _, _, _, _, rfl, _⟩ := h; rfl) | (obtain ⟨_, _, _, _, rfl, _⟩ := h; rfl) | (obtain ⟨_, _, _, rfl, _⟩ := h; rfl) | (obtain ⟨_, _, rfl, _⟩ := h; rfl) | (obtain ⟨_, rfl, _⟩ := h; rfl)) ⟨_, fun cdv A outer s H E hr => (ss_cons (s_if (h_not (h_truth (h_ix (hv 0) h_int))) (ss_one s_never) ss_nil) (ss_one (s_ret (h_tup (a_cons (h_ix (hv 0) h_int) (a_cons (h_bin op3_add (h_slice (h_ix (hv 0) h_int) (o_some (h_un un3_neg h_int)) o_none) (h_slice (h_ix (hv 0) h_int) o_none (o_some (h_un un3_neg h_int)))) a_nil)))))), fun ts M Q h => ?_⟩
 unfold sp_with_back at h
 split at h
 · rename_i n w
   obtain ⟨ws, rfl, hl, hw, h⟩ := h
   walk_at "rd"
   have e : (List.map T.int ws).isEmpty = ws.isEmpty := by cases ws <;> rfl
   rw [e]
   replace hw : (if ws.isEmpty = true then Why.step else Why.ok) = .ok := hw
   replace h : Q (ptT (n, lastL ws ++ ws.dropLast)) M := h
   cases c : ws.isEmpty with
   | true => rw [c] at hw; cases hw
   | false =>
     obtain ⟨A, y, rfl⟩ := snoc_of (w := ws) (fun z => by rw [z] at c; cases c)
     rw [lastL_snoc, List.dropLast_concat] at h
     rw [cutT_lastM, cutT_backM]
     rw [List.length_append, List.length_singleton] at hl
     show _ ∧ _ ∧ _
     exact ⟨line_len' (by rw [List.length_map, List.length_map, List.length_singleton]; lia), by decide, by rw [← List.map_append]; exact rt3_here h⟩
 · exact h.elim
noncomputable def sp_with_less : Sp3 := fun ts M Q => match ts with
 | [.tup [.int n, .tup w]] => ∃ ws : List Int, w = ws.map .int ∧ ws.length ≤ 16 ∧ mvWhy n ws .less = .ok ∧ Q (ptT (mvTo n ws .less)) M
 | _ => False
theorem ok_with_less {P : Program} {w : World} {K : PySem.W.Frag} {mg : Str → Option Value} {base : Heap} {f : Addr} {fd : FuncData} {n : Nat}  (F : Fun K "with_less" "with_less" s_with_less f fd) (hm : mg "with_less" = some (.ref f)) (hb : Binds K fd ["plait"] []) (Z : Zs mg)  : Df P w K mg base (n + 1) "with_less" ["plait"] sp_with_less := by
 refine F.dfn hm hb sc_with_less (by intro ts M Q h; unfold sp_with_less at h; first | (split at h <;> first | rfl | exact h.elim) | (obtain ⟨_, _, _, _, _, rfl, _⟩ := h; rfl) | (obtain ⟨_, _, _, _, rfl, _⟩ := h; rfl) | (obtain ⟨_, _, _, rfl, _⟩ := h; rfl) | (obtain ⟨_, _, rfl, _⟩ := h; rfl) | (obtain ⟨_, rfl, _⟩ := h; rfl)) ⟨_, fun cdv A outer s H E hr => (ss_cons (s_set (i := 1) (h_bin op3_sub (h_ix (hv 0) h_int) h_int) sc_with_less.nd) (ss_cons (s_setC (i := 2) rfl (i_enumT Z.b_enumerate (h_ix (hv 0) h_int)) (blk_scope (outer := defScope s_with_less) (N := ["plait", "greatest", "found"]) (N' := ["at", "letter", "greatest"]) (ix := [none, none, some 1]) (by decide +kernel) rfl rfl) bt_tup2 (fun _ _ _ _ _ => pg_tup rfl (pgs_cons (pg_name (i := 0) (show List.Nodup (["at", "letter", "greatest"] : List Str) by decide +kernel) rfl (Or.inl rfl) (Or.inr rfl)) (pgs_cons (pg_name (i := 1) (show List.Nodup (["at", "letter", "greatest"] : List Str) by decide +kernel) rfl (Or.inl rfl) (Or.inr rfl)) pgs_nil))) (fun _ _ _ _ _ => ts_one (h_tcmp (op3_eq hr.units) (h_callB call3_abs Z.b_abs PyProof.Rows.boot_abs (a_cons (hv 1) a_nil)) (hv 2) (nomark _))) (fun _ _ _ _ _ => (hv 0)) sc_with_less.nd) (ss_cons (s_if (h_tcmp (op3_ne hr.units) (hv 2) (h_lst (a_cons (h_bin op3_sub (h_callB call3_len Z.b_len PySem.boot_len (a_cons (h_ix (hv 0) h_int) a_nil)) h_int) a_nil)) (nomark _)) (ss_one s_never) ss_nil) (ss_one (s_ret (h_tup (a_cons (hv 1) (a_cons (h_slice (h_ix (hv 0) h_int) o_none (o_some (h_un un3_neg h_int))) a_nil)))))))), fun ts M Q h => ?_⟩
 unfold sp_with_less at h
 split at h
 · rename_i n w
   obtain ⟨ws, rfl, hl, hw, h⟩ := h
   walk_at "rd"
   refine ⟨fun i ys M' => ys = (lessP n (ws.take i)).map (fun i => T.int (i : Nat)) ∧ M' = M, ⟨rfl, rfl⟩, fun _ _ _ _ => trivial, ?_, ?_, ?_⟩
   · rw [enT_length, List.length_map]; exact line_len (by lia)
   · rintro i x ys M' hx ⟨rfl, rfl⟩
     obtain ⟨t, ht, rfl⟩ := enT_get hx
     obtain ⟨l, hl', rfl⟩ := get_map_int ht
     have hi := (List.getElem?_eq_some_iff.mp hl').1
     refine ⟨rfl, rfl, ?_⟩
     have e : lessP n (ws.take (i + 1)) = lessP n (ws.take i) ++ if (l.natAbs : Int) = n - 1 then [i] else [] := by
       rw [List.take_add_one, hl', Option.toList_some, lessP_snoc, List.length_take, Nat.min_eq_left (Nat.le_of_lt hi)]
     refine ite2 (fun c => ⟨?_, rfl⟩) (fun c => ⟨?_, rfl⟩)
     · rw [e, if_pos c, List.map_append]; rfl
     · rw [e, if_neg c, List.append_nil]
   · rintro ys M' ⟨rfl, rfl⟩ p hp
     rw [enT_length, List.length_map, List.take_length]
     refine ⟨by decide, fun p1 hp1 => ?_⟩
     have n1 : p ≠ p1 := fun z => by rw [← z, updM_same] at hp1; cases hp1
     have hS : Sub M' (updM (updM M' p (MO.lst (List.map (fun i => T.int (i : Nat)) (lessP n ws)))) p1 (MO.lst [T.int ((ws.length : Int) - 1)])) := (Sub.new hp).newr hp1
     rw [updM_ne n1, updM_same]
     dsimp only
     rw [← lessB_places]
     refine ⟨lessP_pure _, rfl, lessP_dep _, ?_⟩
     rw [mvWhy_less] at hw
     cases c : lessB n ws with
     | false => rw [c] at hw; cases hw
     | true =>
       obtain ⟨A, y, rfl, _, _⟩ := lessB_iff.mp c
       rw [mvTo_less, List.dropLast_concat] at h
       rw [cutT_backM]
       show _ ∧ _
       exact ⟨by decide, rt3_sub h hS⟩
 · exact h.elim
noncomputable def sp_with_more : Sp3 := fun ts M Q => match ts with
 | [.tup [.int n, .tup w], .int k] => ∃ ws : List Int, w = ws.map .int ∧ ws.length ≤ 16 ∧ 1 ≤ n ∧ n ≤ 6 ∧ mvWhy n ws (.more k) = .ok ∧ Q (ptT (mvTo n ws (.more k))) M
 | _ => False
theorem ok_with_more {P : Program} {w : World} {K : PySem.W.Frag} {mg : Str → Option Value} {base : Heap} {f : Addr} {fd : FuncData} {n : Nat}  (F : Fun K "with_more" "with_more" s_with_more f fd) (hm : mg "with_more" = some (.ref f)) (hb : Binds K fd ["plait", "sign"] []) (Z : Zs mg)  : Df P w K mg base (n + 1) "with_more" ["plait", "sign"] sp_with_more := by
 obtain ⟨tk_MOST_STRANDS, c_MOST_STRANDS⟩ := Z.c_MOST_STRANDS
 obtain ⟨tk_MOST_LETTERS, c_MOST_LETTERS⟩ := Z.c_MOST_LETTERS
 refine F.dfn hm hb sc_with_more (by intro ts M Q h; unfold sp_with_more at h; first | (split at h <;> first | rfl | exact h.elim) | (obtain ⟨_, _, _, _, _, rfl, _⟩ := h; rfl) | (obtain ⟨_, _, _, _, rfl, _⟩ := h; rfl) | (obtain ⟨_, _, _, rfl, _⟩ := h; rfl) | (obtain ⟨_, _, rfl, _⟩ := h; rfl) | (obtain ⟨_, rfl, _⟩ := h; rfl)) ⟨_, fun cdv A outer s H E hr => (ss_cons (s_set (i := 2) (h_ix (hv 0) h_int) sc_with_more.nd) (ss_cons (s_if (HW.ht (w_or (h_tcmp (op3_eq hr.units) (hv 2) (h_globI c_MOST_STRANDS) (nomark _)) (w_or1 (h_tcmp (op3_eq hr.units) (h_callB call3_len Z.b_len PySem.boot_len (a_cons (h_ix (hv 0) h_int) a_nil)) (h_globI c_MOST_LETTERS) (nomark _))))) (ss_one s_never) ss_nil) (ss_cons (s_if (h_tcmp op3_notin (hv 1) (h_tup (a_cons h_int (a_cons (h_un un3_neg h_int) a_nil))) rfl) (ss_one s_never) ss_nil) (ss_one (s_ret (h_tup (a_cons (h_bin op3_add (hv 2) h_int) (a_cons (h_bin op3_add (h_ix (hv 0) h_int) (h_tup (a_cons (h_bin op3_mul (hv 1) (hv 2)) a_nil))) a_nil)))))))), fun ts M Q h => ?_⟩
 unfold sp_with_more at h
 split at h
 · rename_i n w k
   obtain ⟨ws, rfl, hl, h1, h6, hw, h⟩ := h
   walk_at "rd"
   rw [mvWhy_more] at hw
   have hk : ¬ (n = 6 ∨ ws.length = 16) ∧ (k = 1 ∨ k = -1) := by
     split at hw
     · cases hw
     · split at hw
       · exact ⟨by assumption, by assumption⟩
       · cases hw
   refine ite2 (fun c => absurd (.inl c) hk.1) (fun c => ite2 (fun c2 => absurd (.inr (by lia)) hk.1) (fun c2 => ?_))
   refine ⟨by decide, rfl, rfl, ?_⟩
   have e : inT (T.int k) [T.int 1, T.int (-1)] = true := by
     rcases hk.2 with rfl | rfl <;> rfl
   rw [e, if_neg (by decide)]
   refine ⟨.inl ⟨by lia, by lia⟩, by decide, line_len' (by lia), by decide, ?_⟩
   have e5 : List.map T.int ws ++ [T.int (k * n)] = (ws ++ [k * n]).map T.int := by rw [List.map_append]; rfl
   rw [e5]
   exact rt3_here h
 · exact h.elim
theorem aft_doneR {n : Int} {ws r : List Int} {s : Stp} (e : aft n ws s = some r) (hl : ws.length + 2 ≤ 4000) : DoneR n ws s.t r := by
 cases s with
 | far a =>
   rw [aft_far] at e
   split at e
   · rename_i c
     exact .inl ⟨a, rfl, c, (Option.some.inj e).symm⟩
   · cases e
 | three a =>
   rw [aft_three] at e
   split at e
   · rename_i c
     exact .inr (.inl ⟨a, rfl, c, (Option.some.inj e).symm⟩)
   · cases e
 | out a =>
   rw [aft_out] at e
   split at e
   · rename_i c
     exact .inr (.inr (.inl ⟨a, rfl, c, (Option.some.inj e).symm⟩))
   · cases e
 | inn a l =>
   rw [aft_inn] at e
   split at e
   · rename_i c
     unfold inB at c
     simp only [Bool.and_eq_true, decide_eq_true_eq, isLet_iff] at c
     exact .inr (.inr (.inr ⟨a, l, rfl, c.1.1, c.1.2, c.2, hl, (Option.some.inj e).symm⟩))
   · cases e
noncomputable def sp_with_step : Sp3 := fun ts M Q => match ts with
 | [.tup [.int n, .tup w], .tup st] => ∃ (ws : List Int) (s : Stp), w = ws.map .int ∧ st = s.t ∧ PlOK n ws ∧ mvWhy n ws (.step s) = .ok ∧ Q (ptT (mvTo n ws (.step s))) M
 | _ => False
theorem ok_with_step {P : Program} {w : World} {K : PySem.W.Frag} {mg : Str → Option Value} {base : Heap} {f : Addr} {fd : FuncData} {n : Nat}  (F : Fun K "with_step" "with_step" s_with_step f fd) (hm : mg "with_step" = some (.ref f)) (hb : Binds K fd ["plait", "step"] []) (Z : Zs mg) (D_stepped : Df P w K mg base n "stepped" ["strands", "word", "step"] sp_stepped) : Df P w K mg base (n + 1) "with_step" ["plait", "step"] sp_with_step := by
 obtain ⟨tk_MOST_LETTERS, c_MOST_LETTERS⟩ := Z.c_MOST_LETTERS
 refine F.dfn hm hb sc_with_step (by intro ts M Q h; unfold sp_with_step at h; first | (split at h <;> first | rfl | exact h.elim) | (obtain ⟨_, _, _, _, _, rfl, _⟩ := h; rfl) | (obtain ⟨_, _, _, _, rfl, _⟩ := h; rfl) | (obtain ⟨_, _, _, rfl, _⟩ := h; rfl) | (obtain ⟨_, _, rfl, _⟩ := h; rfl) | (obtain ⟨_, rfl, _⟩ := h; rfl)) ⟨_, fun cdv A outer s H E hr => (ss_cons (s_set (i := 2) (h_call D_stepped hr (a_cons (h_ix (hv 0) h_int) (a_cons (h_ix (hv 0) h_int) (a_cons (hv 1) a_nil)))) sc_with_step.nd) (ss_cons (s_if (h_tcmp op3_gt (h_callB call3_len Z.b_len PySem.boot_len (a_cons (hv 2) a_nil)) (h_globI c_MOST_LETTERS) (nomark _)) (ss_one s_never) ss_nil) (ss_one (s_ret (h_tup (a_cons (h_ix (hv 0) h_int) (a_cons (hv 2) a_nil))))))), fun ts M Q h => ?_⟩
 unfold sp_with_step at h
 split at h
 · rename_i n w st
   obtain ⟨ws, s, rfl, rfl, ok, hw, h⟩ := h
   walk_at "rd"
   rw [mvWhy_step] at hw
   rw [mvTo_step] at h
   obtain ⟨h1, h6, hl, ho⟩ := ok
   cases e : aft n ws s with
   | none => rw [e] at hw; cases hw
   | some r =>
   rw [e] at h hw
   refine ⟨ws, r, rfl, by lia, h1, h6, ho, aft_doneR e (by lia), ?_⟩
   dsimp only at hw ⊢
   rw [List.length_map]
   refine ite2 (fun c => ?_) (fun c => ⟨by decide, rt3_here h⟩)
   rw [if_pos (by lia)] at hw
   cases hw
 · exact h.elim
noncomputable def sp_moved : Sp3 := fun ts M Q => match ts with
 | [.tup [.int n, .tup w], .tup mt] => ∃ (ws : List Int) (m : Mv), w = ws.map .int ∧ mt = m.t ∧ PlOK n ws ∧ mvWhy n ws m = .ok ∧ Q (ptT (mvTo n ws m)) M
 | _ => False
theorem ok_moved {P : Program} {w : World} {K : PySem.W.Frag} {mg : Str → Option Value} {base : Heap} {f : Addr} {fd : FuncData} {n : Nat}  (F : Fun K "moved" "moved" s_moved f fd) (hm : mg "moved" = some (.ref f)) (hb : Binds K fd ["plait", "move"] []) (Z : Zs mg) (D_looked : Df P w K mg base n "looked" ["plait"] sp_looked) (D_with_more : Df P w K mg base n "with_more" ["plait", "sign"] sp_with_more) (D_with_step : Df P w K mg base n "with_step" ["plait", "step"] sp_with_step) (D_with_round : Df P w K mg base n "with_round" ["plait"] sp_with_round) (D_with_back : Df P w K mg base n "with_back" ["plait"] sp_with_back) (D_with_less : Df P w K mg base n "with_less" ["plait"] sp_with_less) (D_flipped : Df P w K mg base n "flipped" ["plait"] sp_flipped) : Df P w K mg base (n + 1) "moved" ["plait", "move"] sp_moved := by
 refine F.dfn hm hb sc_moved (by intro ts M Q h; unfold sp_moved at h; first | (split at h <;> first | rfl | exact h.elim) | (obtain ⟨_, _, _, _, _, rfl, _⟩ := h; rfl) | (obtain ⟨_, _, _, _, rfl, _⟩ := h; rfl) | (obtain ⟨_, _, _, rfl, _⟩ := h; rfl) | (obtain ⟨_, _, rfl, _⟩ := h; rfl) | (obtain ⟨_, rfl, _⟩ := h; rfl)) ⟨_, fun cdv A outer s H E hr => (ss_cons (s_expr (h_call D_looked hr (a_cons (hv 0) a_nil))) (ss_cons (s_if (HW.ht (w_and (h_tcmp (op3_eq hr.units) (h_callB call3_len Z.b_len PySem.boot_len (a_cons (hv 1) a_nil)) h_int (nomark _)) (w_and1 (h_tcmp (op3_eq hr.units) (h_ix (hv 1) h_int) h_str (nomark _))))) (ss_one (s_ret (h_call D_with_more hr (a_cons (hv 0) (a_cons (h_ix (hv 1) h_int) a_nil))))) ss_nil) (ss_cons (s_if (HW.ht (w_and (h_tcmp (op3_eq hr.units) (h_callB call3_len Z.b_len PySem.boot_len (a_cons (hv 1) a_nil)) h_int (nomark _)) (w_and1 (h_tcmp (op3_eq hr.units) (h_ix (hv 1) h_int) h_str (nomark _))))) (ss_one (s_ret (h_call D_with_step hr (a_cons (hv 0) (a_cons (h_ix (hv 1) h_int) a_nil))))) ss_nil) (ss_cons (s_if (h_tcmp (op3_eq hr.units) (hv 1) (h_tup (a_cons h_str a_nil)) (nomark _)) (ss_one (s_ret (h_call D_with_round hr (a_cons (hv 0) a_nil)))) ss_nil) (ss_cons (s_if (h_tcmp (op3_eq hr.units) (hv 1) (h_tup (a_cons h_str a_nil)) (nomark _)) (ss_one (s_ret (h_call D_with_back hr (a_cons (hv 0) a_nil)))) ss_nil) (ss_cons (s_if (h_tcmp (op3_eq hr.units) (hv 1) (h_tup (a_cons h_str a_nil)) (nomark _)) (ss_one (s_ret (h_call D_with_less hr (a_cons (hv 0) a_nil)))) ss_nil) (ss_cons (s_if (h_tcmp (op3_eq hr.units) (hv 1) (h_tup (a_cons h_str a_nil)) (nomark _)) (ss_one (s_ret (h_call D_flipped hr (a_cons (hv 0) a_nil)))) ss_nil) (ss_one s_never)))))))), fun ts M Q h => ?_⟩
 unfold sp_moved at h
 split at h
 · rename_i n w mt
   obtain ⟨ws, m, rfl, rfl, ok, hw, h⟩ := h
   refine seq_cut fun K1 hK1 => ?_
   walk_at "rd"
   refine ⟨ws, rfl, ok, ?_⟩
   rw [hK1]
   clear hK1
   cases m with
   | step s =>
     show tSeq3 _ _ _ [some (.tup [.int n, .tup (ws.map .int)]), some (.tup [.str "step", .tup s.t])] M
     refine seq_cut fun K2 hK2 => ?_
     walk_at "rd"
     rw [if_pos (by decide)]
     refine ⟨rfl, rfl, by decide, ?_⟩
     rw [if_neg (by decide +kernel), hK2]
     clear hK2
     refine seq_cut fun K3 hK3 => ?_
     walk_at "rd"
     rw [if_pos (by decide)]
     refine ⟨rfl, rfl, by decide, ?_⟩
     rw [if_pos (eqT_refl _ rfl)]
     exact ⟨ws, s, rfl, rfl, ok, hw, rt3_here h⟩
   | round =>
     show tSeq3 _ _ _ [some (.tup [.int n, .tup (ws.map .int)]), some (.tup [.str "round"])] M
     refine seq_cut fun K2 hK2 => ?_
     walk_at "rd"
     rw [if_neg (by decide), hK2]
     clear hK2
     refine seq_cut fun K3 hK3 => ?_
     walk_at "rd"
     rw [if_neg (by decide), hK3]
     clear hK3
     refine seq_cut fun K4 hK4 => ?_
     walk_at "rd"
     refine ⟨by decide, rfl, rfl, by decide, ?_⟩
     rw [if_pos (by decide +kernel)]
     exact ⟨ws, rfl, ok.2.2.1, hw, rt3_here h⟩
   | back =>
     show tSeq3 _ _ _ [some (.tup [.int n, .tup (ws.map .int)]), some (.tup [.str "back"])] M
     refine seq_cut fun K2 hK2 => ?_
     walk_at "rd"
     rw [if_neg (by decide), hK2]
     clear hK2
     refine seq_cut fun K3 hK3 => ?_
     walk_at "rd"
     rw [if_neg (by decide), hK3]
     clear hK3
     refine seq_cut fun K4 hK4 => ?_
     walk_at "rd"
     refine ⟨by decide, rfl, rfl, by decide, ?_⟩
     rw [if_neg (by decide +kernel), hK4]
     clear hK4
     refine seq_cut fun K5 hK5 => ?_
     walk_at "rd"
     refine ⟨by decide, rfl, rfl, by decide, ?_⟩
     rw [if_pos (by decide +kernel)]
     exact ⟨ws, rfl, ok.2.2.1, hw, rt3_here h⟩
   | less =>
     show tSeq3 _ _ _ [some (.tup [.int n, .tup (ws.map .int)]), some (.tup [.str "less"])] M
     refine seq_cut fun K2 hK2 => ?_
     walk_at "rd"
     rw [if_neg (by decide), hK2]
     clear hK2
     refine seq_cut fun K3 hK3 => ?_
     walk_at "rd"
     rw [if_neg (by decide), hK3]
     clear hK3
     refine seq_cut fun K4 hK4 => ?_
     walk_at "rd"
     refine ⟨by decide, rfl, rfl, by decide, ?_⟩
     rw [if_neg (by decide +kernel), hK4]
     clear hK4
     refine seq_cut fun K5 hK5 => ?_
     walk_at "rd"
     refine ⟨by decide, rfl, rfl, by decide, ?_⟩
     rw [if_neg (by decide +kernel), hK5]
     clear hK5
     refine seq_cut fun K6 hK6 => ?_
     walk_at "rd"
     refine ⟨by decide, rfl, rfl, by decide, ?_⟩
     rw [if_pos (by decide +kernel)]
     exact ⟨ws, rfl, ok.2.2.1, hw, rt3_here h⟩
   | flip =>
     show tSeq3 _ _ _ [some (.tup [.int n, .tup (ws.map .int)]), some (.tup [.str "flip"])] M
     refine seq_cut fun K2 hK2 => ?_
     walk_at "rd"
     rw [if_neg (by decide), hK2]
     clear hK2
     refine seq_cut fun K3 hK3 => ?_
     walk_at "rd"
     rw [if_neg (by decide), hK3]
     clear hK3
     refine seq_cut fun K4 hK4 => ?_
     walk_at "rd"
     refine ⟨by decide, rfl, rfl, by decide, ?_⟩
     rw [if_neg (by decide +kernel), hK4]
     clear hK4
     refine seq_cut fun K5 hK5 => ?_
     walk_at "rd"
     refine ⟨by decide, rfl, rfl, by decide, ?_⟩
     rw [if_neg (by decide +kernel), hK5]
     clear hK5
     refine seq_cut fun K6 hK6 => ?_
     walk_at "rd"
     refine ⟨by decide, rfl, rfl, by decide, ?_⟩
     rw [if_neg (by decide +kernel), hK6]
     clear hK6
     refine seq_cut fun K7 hK7 => ?_
     walk_at "rd"
     refine ⟨by decide, rfl, rfl, by decide, ?_⟩
     rw [if_pos (by decide +kernel)]
     exact ⟨ws, rfl, ok, rt3_here h⟩
   | more k =>
     show tSeq3 _ _ _ [some (.tup [.int n, .tup (ws.map .int)]), some (.tup [.str "more", .int k])] M
     refine seq_cut fun K2 hK2 => ?_
     walk_at "rd"
     rw [if_pos (by decide)]
     refine ⟨rfl, rfl, by decide, ?_⟩
     rw [if_pos (eqT_refl _ rfl)]
     exact ⟨ws, rfl, ok.2.2.1, ok.1, ok.2.1, hw, rt3_here h⟩
 · exact h.elim
noncomputable def runMv (p : Int × List Int) : List Mv → Int × List Int
 | [] => p
 | m :: r => runMv (mvTo p.1 p.2 m) r
noncomputable def okMv (p : Int × List Int) : List Mv → Prop
 | [] => PlOK p.1 p.2
 | m :: r => PlOK p.1 p.2 ∧ mvWhy p.1 p.2 m = .ok ∧ okMv (mvTo p.1 p.2 m) r
theorem okMv_pl {p : Int × List Int} : ∀ {ms : List Mv}, okMv p ms → PlOK p.1 p.2
 | [], h => h
 | _ :: _, h => h.1
noncomputable def sp_moved_all : Sp3 := fun ts M Q => match ts with
 | [.tup [.int n, .tup w], .adr q] => ∃ (ws : List Int) (ms : List Mv), w = ws.map .int ∧ M q = some (.lst (ms.map mvT)) ∧ okMv (n, ws) ms ∧ Q (ptT (runMv (n, ws) ms)) M
 | _ => False
theorem ok_moved_all {P : Program} {w : World} {K : PySem.W.Frag} {mg : Str → Option Value} {base : Heap} {f : Addr} {fd : FuncData} {n : Nat}  (F : Fun K "moved_all" "moved_all" s_moved_all f fd) (hm : mg "moved_all" = some (.ref f)) (hb : Binds K fd ["plait", "moves"] []) (Z : Zs mg) (D_looked : Df P w K mg base n "looked" ["plait"] sp_looked) (D_moved : Df P w K mg base n "moved" ["plait", "move"] sp_moved) : Df P w K mg base (n + 1) "moved_all" ["plait", "moves"] sp_moved_all := by
 refine F.dfn hm hb sc_moved_all (by intro ts M Q h; unfold sp_moved_all at h; first | (split at h <;> first | rfl | exact h.elim) | (obtain ⟨_, _, _, _, _, rfl, _⟩ := h; rfl) | (obtain ⟨_, _, _, _, rfl, _⟩ := h; rfl) | (obtain ⟨_, _, _, rfl, _⟩ := h; rfl) | (obtain ⟨_, _, rfl, _⟩ := h; rfl) | (obtain ⟨_, rfl, _⟩ := h; rfl)) ⟨_, fun cdv A outer s H E hr => (ss_cons (s_expr (h_call D_looked hr (a_cons (hv 0) a_nil))) (ss_cons (s_for PassesOwn.never rfl (i_seq (hv 1)) (g_name (i := 2) sc_moved_all.nd) (ss_one (s_set (i := 0) (h_call D_moved hr (a_cons (hv 0) (a_cons (hv 2) a_nil))) sc_moved_all.nd))) (ss_one (s_ret (hv 0))))), fun ts M Q h => ?_⟩
 unfold sp_moved_all at h
 split at h
 · rename_i n w q
   obtain ⟨ws, ms, rfl, hq, ok, h⟩ := h
   refine seq_cut2 fun K2 hK2 => ?_
   walk_at "rd"
   refine ⟨ws, rfl, okMv_pl ok, ?_⟩
   rw [hK2]
   dsimp only
   unfold tFor3
   walk_at "rd"
   rw [hq]
   refine ⟨fun i ρ M' => M' = M ∧ ∃ (a : Option T) (p : Int × List Int), ρ = [some (ptT p), some (T.adr q), a] ∧ okMv p (ms.drop i) ∧ runMv p (ms.drop i) = runMv (n, ws) ms, ⟨rfl, none, (n, ws), rfl, ok, rfl⟩, ?_, ?_, ?_⟩
   · rintro i ρ M' ⟨rfl, _⟩
     exact hq
   · rintro i x ρ M' hx ⟨rfl, a, p, rfl, ok1, e1⟩
     obtain ⟨m, hm, rfl⟩ : ∃ m, ms[i]? = some m ∧ mvT m = x := by
       rw [List.getElem?_map] at hx
       exact Option.map_eq_some_iff.mp hx
     have hil := (List.getElem?_eq_some_iff.mp hm).1
     have ed : ms.drop i = m :: ms.drop (i + 1) := by
       rw [List.drop_eq_getElem_cons hil]
       congr 1
       exact (List.getElem?_eq_some_iff.mp hm).2
     rw [ed] at ok1 e1
     obtain ⟨o1, o2, o3⟩ := ok1
     exact ⟨p.2, m, rfl, rfl, o1, o2, rfl, _, _, rfl, o3, e1⟩
   · rintro ρ M' ⟨rfl, a, p, rfl, ok1, e1⟩
     rw [List.length_map, List.drop_length] at e1
     have e2 : p = runMv (n, ws) ms := e1
     rw [e2]
     exact rt3_here h
 · exact h.elim
noncomputable def sp__law_state : Sp3 := fun ts M Q => match ts with
 | [.rd s, .int k] => ∃ ns : List Int, s = ns.map .int ∧ 0 ≤ k ∧ k < 100 ∧ ∀ p c f, M p = none → Q (.adr p) (updM M p (.lst [.int c, .int f]))
 | _ => False
theorem ok__law_state {P : Program} {w : World} {K : PySem.W.Frag} {mg : Str → Option Value} {base : Heap} {f : Addr} {fd : FuncData} {n : Nat}  (F : Fun K "_law_state" "_law_state" s__law_state f fd) (hm : mg "_law_state" = some (.ref f)) (hb : Binds K fd ["script", "k"] []) (Z : Zs mg)  : Df P w K mg base (n + 1) "_law_state" ["script", "k"] sp__law_state := by
 refine F.dfn hm hb sc__law_state (by intro ts M Q h; unfold sp__law_state at h; first | (split at h <;> first | rfl | exact h.elim) | (obtain ⟨_, _, _, _, _, rfl, _⟩ := h; rfl) | (obtain ⟨_, _, _, _, rfl, _⟩ := h; rfl) | (obtain ⟨_, _, _, rfl, _⟩ := h; rfl) | (obtain ⟨_, _, rfl, _⟩ := h; rfl) | (obtain ⟨_, rfl, _⟩ := h; rfl)) ⟨_, fun cdv A outer s H E hr => (ss_cons (s_set (i := 2) h_int sc__law_state.nd) (ss_cons (s_if (h_tcmp op3_lt (hv 1) (h_callB call3_len Z.b_len PySem.boot_len (a_cons (hv 0) a_nil)) (nomark _)) (ss_one (s_set (i := 2) (h_ix (hv 0) (hv 1)) sc__law_state.nd)) ss_nil) (ss_cons (s_if (h_tcmp op3_ge (hv 2) (h_bin op3_pow h_int h_int) (nomark _)) (ss_one (s_ret (h_lst (a_cons (h_bin op3_sub (hv 2) (h_bin op3_pow h_int h_int)) (a_cons h_int a_nil))))) ss_nil) (ss_one (s_ret (h_lst (a_cons (h_bin op3_mod (h_bin op3_add (hv 2) (h_bin op3_mul h_int (hv 1))) h_int) (a_cons h_int a_nil)))))))), fun ts M Q h => ?_⟩
 unfold sp__law_state at h
 split at h
 · rename_i s k
   obtain ⟨ns, rfl, h0, h1, h⟩ := h
   walk_at "rd"
   refine ite2 (fun c => ?_) (fun c => ?_)
   · rw [atI_ints ns k h0 c]
     refine ⟨⟨by decide, by decide, by decide⟩, ite2 (fun _ => ⟨⟨by decide, by decide, by decide⟩, by decide, fun p hp => rt3_here (h _ _ _ hp)⟩) (fun _ => ⟨.inl ⟨by decide, by decide⟩, by decide, by decide, fun p hp => rt3_here (h _ _ _ hp)⟩)⟩
   · refine ⟨⟨by decide, by decide, by decide⟩, ite2 (fun _ => ⟨⟨by decide, by decide, by decide⟩, by decide, fun p hp => rt3_here (h _ _ _ hp)⟩) (fun _ => ⟨.inl ⟨by decide, by decide⟩, by decide, by decide, fun p hp => rt3_here (h _ _ _ hp)⟩)⟩
 · exact h.elim
theorem cdiv_ok {x m : Int} (h0 : 0 < m) (h1 : m < 2 ^ 100) : CDivB x m := by
 refine ⟨h0, ?_⟩
 have : m.natAbs.log2 < 100 := (Nat.log2_lt (by lia)).mpr (by lia)
 lia
theorem cmul_mod {x y k : Int} (hk : 0 < k) (hk' : k ≤ 2 ^ 64) : CMul (x % k) y := by
 have h1 := Int.emod_nonneg x (Int.ne_of_gt hk)
 have h2 := Int.emod_lt_of_pos x hk
 exact .inl ⟨by lia, by lia⟩
noncomputable def sp__law_take : Sp3 := fun ts M Q => match ts with
 | [.adr p, .int m] => ∃ s f, M p = some (.lst [.int s, .int f]) ∧ 0 < m ∧ m < 2 ^ 60 ∧ ∀ c s' f', 0 ≤ c → c < m → Q (.int c) (updM M p (.lst [.int s', .int f']))
 | _ => False
theorem ok__law_take {P : Program} {w : World} {K : PySem.W.Frag} {mg : Str → Option Value} {base : Heap} {f : Addr} {fd : FuncData} {n : Nat}  (F : Fun K "_law_take" "_law_take" s__law_take f fd) (hm : mg "_law_take" = some (.ref f)) (hb : Binds K fd ["state", "many"] []) (Z : Zs mg)  : Df P w K mg base (n + 1) "_law_take" ["state", "many"] sp__law_take := by
 refine F.dfn hm hb sc__law_take (by intro ts M Q h; unfold sp__law_take at h; first | (split at h <;> first | rfl | exact h.elim) | (obtain ⟨_, _, _, _, _, rfl, _⟩ := h; rfl) | (obtain ⟨_, _, _, _, rfl, _⟩ := h; rfl) | (obtain ⟨_, _, _, rfl, _⟩ := h; rfl) | (obtain ⟨_, _, rfl, _⟩ := h; rfl) | (obtain ⟨_, rfl, _⟩ := h; rfl)) ⟨_, fun cdv A outer s H E hr => (ss_cons (s_if (HW.ht (w_and (h_tcmp (op3_eq hr.units) (h_ix (hv 0) h_int) h_int (nomark _)) (w_and1 (h_tcmp op3_gt (h_ix (hv 0) h_int) h_int (nomark _))))) (ss_cons (s_set (i := 2) (h_bin op3_mod (h_ix (hv 0) h_int) (hv 1)) sc__law_take.nd) (ss_cons (s_asg (h_bin op3_div (h_ix (hv 0) h_int) (hv 1)) (g_sub (hv 0) h_int)) (ss_one (s_ret (hv 2))))) ss_nil) (ss_cons (s_asg h_int (g_sub (hv 0) h_int)) (ss_cons (s_asg (h_bin op3_mod (h_bin op3_add (h_bin op3_mul (h_ix (hv 0) h_int) h_int) h_int) h_int) (g_sub (hv 0) h_int)) (ss_cons (s_set (i := 3) (h_bin op3_mod (h_bin op3_add (h_bin op3_mul (h_ix (hv 0) h_int) (h_ix (hv 0) h_int)) (h_bin op3_mul h_int (h_ix (hv 0) h_int))) h_int) sc__law_take.nd) (ss_cons (s_set (i := 3) (h_bin op3_mod (h_bin op3_add (h_bin op3_mul (hv 3) (hv 3)) (h_bin op3_mul h_int (hv 3))) h_int) sc__law_take.nd) (ss_one (s_ret (h_bin op3_mod (h_bin op3_div (hv 3) h_int) (hv 1))))))))), fun ts M Q h => ?_⟩
 unfold sp__law_take at h
 split at h
 · rename_i p m
   obtain ⟨s, f, hM, h0, h1, h⟩ := h
   refine seq_cut fun K1 hK1 => ?_
   have hk : K1 [some (.adr p), some (.int m), none, none] M := by
     rw [hK1]
     clear hK1
     walk_at "rd"
     simp only [hM]
     walk_at "rd"
     have i1 : ixN (0 + 1 + 1) 1 = some 1 := by decide
     simp only [i1]
     exact ⟨.inr ⟨by decide, by decide⟩, by decide, cmul_mod (by decide) (by decide), .inl ⟨by decide, by decide⟩, by decide, cmul_mod (by decide) (by decide), .inl ⟨by decide, by decide⟩, by decide, cdiv_ok (by decide) (by decide), h0,
       rt3_here (h _ _ _ (Int.emod_nonneg _ (Int.ne_of_gt h0)) (Int.emod_lt_of_pos _ h0))⟩
   walk_at "rd"
   simp only [hM]
   walk_at "rd"
   have i0 : ixN 2 0 = some 0 := by decide
   exact ite2 (fun c => ite2 (fun c2 => ⟨h0, cdiv_ok h0 (by lia), rt3_here (h _ _ _ (Int.emod_nonneg _ (Int.ne_of_gt h0)) (Int.emod_lt_of_pos _ h0))⟩) (fun c2 => hk)) (fun c => hk)
 · exact h.elim
noncomputable def sp__law_letter : Sp3 := fun ts M Q => match ts with
 | [.adr p, .int n] => ∃ s f, M p = some (.lst [.int s, .int f]) ∧ 2 ≤ n ∧ n ≤ 6 ∧ ∀ l s' f', LetOK n l → Q (.int l) (updM M p (.lst [.int s', .int f']))
 | _ => False
theorem ok__law_letter {P : Program} {w : World} {K : PySem.W.Frag} {mg : Str → Option Value} {base : Heap} {f : Addr} {fd : FuncData} {n : Nat}  (F : Fun K "_law_letter" "_law_letter" s__law_letter f fd) (hm : mg "_law_letter" = some (.ref f)) (hb : Binds K fd ["state", "strands"] []) (Z : Zs mg) (D__law_take : Df P w K mg base n "_law_take" ["state", "many"] sp__law_take) : Df P w K mg base (n + 1) "_law_letter" ["state", "strands"] sp__law_letter := by
 refine F.dfn hm hb sc__law_letter (by intro ts M Q h; unfold sp__law_letter at h; first | (split at h <;> first | rfl | exact h.elim) | (obtain ⟨_, _, _, _, _, rfl, _⟩ := h; rfl) | (obtain ⟨_, _, _, _, rfl, _⟩ := h; rfl) | (obtain ⟨_, _, _, rfl, _⟩ := h; rfl) | (obtain ⟨_, _, rfl, _⟩ := h; rfl) | (obtain ⟨_, rfl, _⟩ := h; rfl)) ⟨_, fun cdv A outer s H E hr => (ss_cons (s_set (i := 2) (h_call D__law_take hr (a_cons (hv 0) (a_cons (h_bin op3_mul h_int (h_bin op3_sub (hv 1) h_int)) a_nil))) sc__law_letter.nd) (ss_one (s_ret (h_bin op3_mul (h_ix (h_lst (a_cons h_int (a_cons (h_un un3_neg h_int) a_nil))) (h_bin op3_mod (hv 2) h_int)) (h_bin op3_add h_int (h_bin op3_div (hv 2) h_int)))))), fun ts M Q h => ?_⟩
 unfold sp__law_letter at h
 split at h
 · rename_i p n
   obtain ⟨s, f, hM, h0, h1, h⟩ := h
   walk_at "rd"
   refine ⟨.inl ⟨by lia, by lia⟩, s, f, hM, by lia, by lia, fun c s1 f1 c0 c1 => ?_⟩
   walk_at "rd"
   refine ⟨by decide, fun p1 hp1 => ?_⟩
   have n1 : p ≠ p1 := fun z => by rw [← z, updM_same] at hp1; cases hp1
   have e1 : ∃ b : Int, (b = 1 ∨ b = -1) ∧ atI [T.int 1, T.int (-1)] (c % 2) = some (.int b) := by
     rcases (show c % 2 = 0 ∨ c % 2 = 1 by lia) with e | e
     · rw [e]; exact ⟨1, .inl rfl, rfl⟩
     · rw [e]; exact ⟨-1, .inr rfl, rfl⟩
   obtain ⟨b, hb, e1⟩ := e1
   simp only [e1]
   have hl : LetOK n (b * (1 + c / 2)) := by
     unfold LetOK
     rcases hb with rfl | rfl
     · lia
     · lia
   exact ⟨by decide, ⟨by decide, by decide⟩, .inl ⟨by lia, by lia⟩, rt3_sub (h _ _ _ hl) (Sub.new hp1)⟩
 · exact h.elim
noncomputable def sp__law_plait : Sp3 := fun ts M Q => match ts with
 | [.adr p, .int most, .int longest] => ∃ s f, M p = some (.lst [.int s, .int f]) ∧ 1 ≤ most ∧ most ≤ 6 ∧ 0 ≤ longest ∧ longest ≤ 100 ∧ ∀ (n : Int) (w : List Int) s' f', 1 ≤ n → n ≤ most → (w.length : Int) ≤ longest → WordOK n w → Q (.tup [.int n, .tup (w.map .int)]) (updM M p (.lst [.int s', .int f']))
 | _ => False
theorem ok__law_plait {P : Program} {w : World} {K : PySem.W.Frag} {mg : Str → Option Value} {base : Heap} {f : Addr} {fd : FuncData} {n : Nat}  (F : Fun K "_law_plait" "_law_plait" s__law_plait f fd) (hm : mg "_law_plait" = some (.ref f)) (hb : Binds K fd ["state", "most", "longest"] []) (Z : Zs mg) (D__law_take : Df P w K mg base n "_law_take" ["state", "many"] sp__law_take) (D__law_letter : Df P w K mg base n "_law_letter" ["state", "strands"] sp__law_letter) : Df P w K mg base (n + 1) "_law_plait" ["state", "most", "longest"] sp__law_plait := by
 refine F.dfn hm hb sc__law_plait (by intro ts M Q h; unfold sp__law_plait at h; first | (split at h <;> first | rfl | exact h.elim) | (obtain ⟨_, _, _, _, _, rfl, _⟩ := h; rfl) | (obtain ⟨_, _, _, _, rfl, _⟩ := h; rfl) | (obtain ⟨_, _, _, rfl, _⟩ := h; rfl) | (obtain ⟨_, _, rfl, _⟩ := h; rfl) | (obtain ⟨_, rfl, _⟩ := h; rfl)) ⟨_, fun cdv A outer s H E hr => (ss_cons (s_set (i := 3) (h_bin op3_add h_int (h_bin op3_div (h_bin op3_mod (h_bin op3_add (h_call D__law_take hr (a_cons (hv 0) (a_cons (h_bin op3_mul h_int (hv 1)) a_nil))) h_int) (h_bin op3_mul h_int (hv 1))) h_int)) sc__law_plait.nd) (ss_cons (s_set (i := 4) (h_lst a_nil) sc__law_plait.nd) (ss_cons (s_for PassesOwn.never rfl (i_range1 Z.b_range (a_cons (h_bin op3_mul (h_call D__law_take hr (a_cons (hv 0) (a_cons (h_bin op3_add (hv 2) h_int) a_nil))) (h_callT call3_int Z.b_int PyProof.Rows.boot_int (a_cons (h_cmp op3_gt (hv 3) h_int (nomark _)) a_nil))) a_nil)) (g_name (i := 5) sc__law_plait.nd) (ss_cons (s_expr (h_m_append (hv 4) (a_cons (h_call D__law_letter hr (a_cons (hv 0) (a_cons (hv 3) a_nil))) a_nil))) (ss_one (s_if (HW.ht (w_and (h_tcmp (op3_eq hr.units) (h_call D__law_take hr (a_cons (hv 0) (a_cons h_int a_nil))) h_int (nomark _)) (w_and1 (h_tcmp op3_gt (h_callB call3_len Z.b_len PySem.boot_len (a_cons (hv 4) a_nil)) h_int (nomark _))))) (ss_one (s_asg (h_ix (h_lst (a_cons (h_ix (hv 4) (h_un un3_neg h_int)) (a_cons (h_bin op3_sub h_int (h_ix (hv 4) (h_un un3_neg h_int))) a_nil))) (h_call D__law_take hr (a_cons (hv 0) (a_cons h_int a_nil)))) (g_sub (hv 4) (h_un un3_neg h_int)))) ss_nil)))) (ss_one (s_ret (h_tup (a_cons (hv 3) (a_cons (h_callT call3_tuple Z.b_tuple PyProof.Rows.boot_tuple (a_cons (hv 4) a_nil)) a_nil)))))))), fun ts M Q h => ?_⟩
 unfold sp__law_plait at h
 split at h
 · rename_i p most longest
   obtain ⟨s, f, hM, hm1, hm2, hl0, hl1, h⟩ := h
   refine seq_cut2 fun K2 hK2 => ?_
   walk_at "rd"
   refine ⟨.inl ⟨by decide, by decide⟩, s, f, hM, by lia, by lia, fun c s1 f1 c0 c1 => ?_⟩
   refine ⟨.inl ⟨by decide, by decide⟩, by lia, ⟨by decide, by decide⟩, fun r hr => ?_⟩
   have hn : 1 ≤ 1 + (c + 1) % (12 * most) / 12 ∧ 1 + (c + 1) % (12 * most) / 12 ≤ most := by
     have e1 := Int.emod_nonneg (c + 1) (show 12 * most ≠ 0 by lia)
     have e2 := Int.emod_lt_of_pos (c + 1) (show 0 < 12 * most by lia)
     lia
   generalize 1 + (c + 1) % (12 * most) / 12 = n at hn ⊢
   have nr : p ≠ r := fun z => by rw [← z, updM_same] at hr; cases hr
   have hrn : ∀ x, updM M p x r = none := fun x => by
     rw [updM_ne nr.symm] at hr ⊢; exact hr
   rw [hK2]
   refine seq_cut fun K3 hK3 => ?_
   refine for_cut fun B hB => ?_
   walk_at "rd"
   refine ⟨s1, f1, by rw [updM_ne nr, updM_same], by lia, by lia, fun c2 s2 f2 c20 c21 => ?_⟩
   have hb : ∃ k : Int, (if 1 < n then (1 : Int) else 0) = k ∧ ((k = 0) ∨ (k = 1 ∧ 2 ≤ n)) := by
     by_cases c : 1 < n
     · exact ⟨1, if_pos c, .inr ⟨rfl, by lia⟩⟩
     · exact ⟨0, if_neg c, .inl rfl⟩
   obtain ⟨k, ek, hb⟩ := hb
   have hS0 : Sub (updM M p (.lst [.int s2, .int f2])) (updM (updM (updM M p (MO.lst [T.int s1, T.int f1])) r (MO.lst [])) p (MO.lst [T.int s2, T.int f2])) := (Sub.new hr).set
   have hr0 : updM (updM (updM M p (MO.lst [T.int s1, T.int f1])) r (MO.lst [])) p (MO.lst [T.int s2, T.int f2]) r = some (.lst []) := by rw [updM_ne nr.symm, updM_same]
   generalize updM (updM (updM M p (MO.lst [T.int s1, T.int f1])) r (MO.lst [])) p (MO.lst [T.int s2, T.int f2]) = M0 at hS0 hr0 ⊢
   walk_at "rd"
   rw [ek]
   have hck : 0 ≤ c2 * k ∧ c2 * k ≤ longest ∧ (0 < c2 * k → 2 ≤ n) := by
     rcases hb with rfl | ⟨rfl, h2⟩
     · rw [Int.mul_zero]; lia
     · rw [Int.mul_one]; lia
   have hcm : CMul c2 k := .inl ⟨by lia, by lia⟩
   generalize c2 * k = cnt at hck ⊢
   refine ⟨hcm, by lia, by lia, fun i ρ M' => ∃ a w s' f', ρ = [some (T.adr p), some (T.int most), some (T.int longest), some (T.int n), some (T.adr r), a] ∧ M' r = some (.lst (List.map T.int w)) ∧ Sub (updM M p (.lst [.int s', .int f'])) M' ∧ w.length = i ∧ WordOK n w, ⟨none, [], s2, f2, rfl, hr0, hS0, rfl, WordOK.nil⟩, fun _ _ _ _ => trivial, ?_, ?_⟩
   · rintro i x ρ M' hx ⟨a, w, s', f', rfl, hw, hS, hwl, hok⟩
     obtain ⟨hi, rfl⟩ := rangeT0_get hx
     have hp' : M' p = some (.lst [.int s', .int f']) := hS _ _ updM_same
     rw [hB]
     refine seq_cut fun K4 hK4 => ?_
     walk_at "rd"
     rw [hw]
     refine ⟨trivial, s', f', hp', by lia, by lia, fun l s3 f3 hl => ?_⟩
     simp only [updM_ne nr.symm, hw]
     have e1 : List.map T.int w ++ [T.int l] = (w ++ [l]).map T.int := by rw [List.map_append]; rfl
     rw [e1]
     have hS1 : Sub (updM M p (.lst [.int s3, .int f3])) (updM (updM M' p (.lst [.int s3, .int f3])) r (.lst ((w ++ [l]).map T.int))) := hS.set.updF (hrn _)
     have hw1 : updM (updM M' p (.lst [.int s3, .int f3])) r (.lst ((w ++ [l]).map T.int)) r = some (.lst ((w ++ [l]).map T.int)) := updM_same
     generalize updM (updM M' p (.lst [.int s3, .int f3])) r (.lst ((w ++ [l]).map T.int)) = M1 at hS1 hw1 ⊢
     have hp1 : M1 p = some (.lst [.int s3, .int f3]) := hS1 _ _ updM_same
     refine ⟨by rw [List.length_map]; exact line_len (by lia), ?_⟩
     have hok1 : WordOK n (w ++ [l]) := hok.append fun x hx => by rw [List.mem_singleton.mp hx]; exact hl
     rw [hK4]
     walk_at "rd"
     refine ⟨s3, f3, hp1, by decide, by decide, fun c4 s4 f4 c40 c41 => ?_⟩
     have hr2 : updM M1 p (.lst [.int s4, .int f4]) r = some (.lst ((w ++ [l]).map T.int)) := by rw [updM_ne nr.symm, hw1]
     have hS2 : Sub (updM M p (.lst [.int s4, .int f4])) (updM M1 p (.lst [.int s4, .int f4])) := hS1.set
     generalize updM M1 p (.lst [.int s4, .int f4]) = M2 at hr2 hS2 ⊢
     have hp2 : M2 p = some (.lst [.int s4, .int f4]) := hS2 _ _ updM_same
     have hlen : (w ++ [l]).length = i + 1 := by rw [List.length_append, hwl]; rfl
     refine ⟨rfl, by rw [depT_int]; lia, ite2 (fun hc => ?_) (fun hc => ⟨_, _, s4, f4, rfl, hr2, hS2, hlen, hok1⟩)⟩
     simp only [hr2]
     refine ite2 (fun hc2 => ?_) (fun hc2 => ⟨_, _, s4, f4, rfl, rfl, hS2, hlen, hok1⟩)
     rw [List.length_map, hlen] at hc2
     obtain ⟨w0, y, rfl⟩ : ∃ w0 y, w = w0 ++ [y] := by
       rcases List.eq_nil_or_concat w with e | ⟨w0, y, e⟩
       · rw [e] at hwl; simp at hwl; lia
       · exact ⟨w0, y, by rw [e, List.concat_eq_append]⟩
     have e2 : List.map T.int (w0 ++ [y] ++ [l]) = List.map T.int w0 ++ [T.int y, T.int l] := by simp
     have a2 : atI (List.map T.int (w0 ++ [y] ++ [l])) (-2) = some (T.int y) := by rw [e2]; exact atI_last2 _ _ _
     have hy : LetOK n y := hok y (by simp)
     simp only [a2]
     refine ⟨by decide, fun p3 hp3 => ?_⟩
     have q1 : p ≠ p3 := fun z => by rw [← z, hp2] at hp3; cases hp3
     have q2 : r ≠ p3 := fun z => by rw [← z, hr2] at hp3; cases hp3
     refine ⟨s4, f4, by rw [updM_ne q1, hp2], by decide, by decide, fun c5 s5 f5 c50 c51 => ?_⟩
     have e5 : ∃ b : Int, LetOK n b ∧ atI [T.int y, T.int (0 - y)] c5 = some (.int b) := by
       rcases (show c5 = 0 ∨ c5 = 1 by lia) with rfl | rfl
       · exact ⟨y, hy, rfl⟩
       · exact ⟨0 - y, by unfold LetOK at hy ⊢; lia, rfl⟩
     obtain ⟨b, hbL, e5⟩ := e5
     simp only [updM_ne q1.symm, updM_same, e5, updM_ne nr.symm, updM_ne q2, hr2]
     have ix : ixN (List.map T.int (w0 ++ [y] ++ [l])).length (-1) = some (w0.length + 1) := by
       unfold ixN
       rw [List.length_map]
       simp only [List.length_append, List.length_singleton]
       rw [if_neg (by decide), if_pos (by lia)]
       congr 1
       lia
     rw [ix]
     have e6 : (List.map T.int (w0 ++ [y] ++ [l])).set (w0.length + 1) (T.int b) = List.map T.int (w0 ++ [y] ++ [b]) := by
       rw [← List.map_set]
       congr 1
       rw [List.set_append_right _ _ (by simp)]
       simp
     dsimp only
     rw [e6]
     refine ⟨_, w0 ++ [y] ++ [b], s5, f5, rfl, rfl, ?_, by rw [List.length_append, hwl]; rfl, hok.append fun x hx => by rw [List.mem_singleton.mp hx]; exact hbL⟩
     exact ((hS2.newr hp3).set).updF (hrn _)
   · rintro ρ M' ⟨a, w, s', f', rfl, hw, hS, hwl, hok⟩
     rw [rangeT_length] at hwl
     rw [hK3]
     walk_at "rd"
     simp only [hw]
     exact ⟨by decide, rt3_sub (h n w s' f' hn.1 hn.2 (by lia) hok) hS⟩
 · exact h.elim
theorem crT_pure (L : List (Int × Int × Int)) : pureTs (L.map crT) = true ∧ depTs (L.map crT) ≤ 30 := by
 have e : L.map crT = (L.map fun x => [x.1, x.2.1, x.2.2]).map fun u => T.tup (u.map .int) := by rw [List.map_map]; rfl
 rw [e]
 exact ⟨pureTs_tups _, Nat.le_trans (depTs_tups _) (by decide)⟩
theorem ptP (n : Int) (w : List Int) : pureT (T.tup [T.int n, T.tup (w.map T.int)]) = true ∧ depT (T.tup [T.int n, T.tup (w.map T.int)]) ≤ 30 := by
 refine ⟨?_, ?_⟩
 · rw [pureT_tup, pureTs_cons, pureTs_cons, pureT_tup, pureTs_ints]; rfl
 · rw [depT_tup, depTs_cons, depTs_cons, depT_tup, depTs_ints]
   show max 0 (max (0 + 1) 0) + 1 ≤ 30
   decide
theorem flat_rep {α : Type} (x : α) : ∀ k : Nat, (List.replicate k [x]).flatten = List.replicate k x
 | 0 => rfl
 | k + 1 => by rw [List.replicate_succ, List.flatten_cons, flat_rep x k]; rfl
theorem rep_mv (m : Mv) (k : Nat) : (List.replicate k [mvT m]).flatten = (List.replicate k m).map mvT := by rw [flat_rep, List.map_replicate]
theorem plOK_perm {n : Int} {u v : List Int} (h : PlOK n u) (p : v.Perm u) : PlOK n v := ⟨h.1, h.2.1, by rw [p.length_eq]; exact h.2.2.1, fun x hx => h.2.2.2 x (p.mem_iff.mp hx)⟩
theorem round_run {n : Int} : ∀ (w v : List Int), PlOK n (w ++ v) → okMv (n, w ++ v) (List.replicate w.length .round) ∧ runMv (n, w ++ v) (List.replicate w.length .round) = (n, v ++ w)
 | [], v, ok => by
   rw [List.append_nil]
   exact ⟨ok, rfl⟩
 | l :: w, v, ok => by
   have e : mvTo n (l :: w ++ v) .round = (n, w ++ (v ++ [l])) := by
     show (n, (w ++ v) ++ [l]) = _
     rw [List.append_assoc]
   have ok2 : PlOK n (w ++ (v ++ [l])) := plOK_perm ok (by rw [← List.append_assoc]; exact List.perm_append_comm)
   obtain ⟨a, b⟩ := round_run w (v ++ [l]) ok2
   show (PlOK n (l :: w ++ v) ∧ mvWhy n (l :: w ++ v) .round = .ok ∧ okMv (mvTo n (l :: w ++ v) .round) (List.replicate w.length .round)) ∧ runMv (mvTo n (l :: w ++ v) .round) (List.replicate w.length .round) = _
   rw [e]
   exact ⟨⟨ok, rfl, a⟩, by rw [b, List.append_assoc]; rfl⟩
theorem back_run {n : Int} : ∀ (k : Nat) (w v : List Int), w.length = k → PlOK n (v ++ w) → okMv (n, v ++ w) (List.replicate k .back) ∧ runMv (n, v ++ w) (List.replicate k .back) = (n, w ++ v)
 | 0, w, v, hk, ok => by
   obtain rfl := List.eq_nil_of_length_eq_zero hk
   rw [List.append_nil] at ok ⊢
   exact ⟨ok, rfl⟩
 | k + 1, w, v, hk, ok => by
   obtain ⟨w0, y, rfl⟩ : ∃ w0 y, w = w0 ++ [y] := by
     rcases List.eq_nil_or_concat w with e | ⟨w0, y, e⟩
     · rw [e] at hk; simp at hk
     · exact ⟨w0, y, by rw [e, List.concat_eq_append]⟩
   have hk2 : w0.length = k := by rw [List.length_append, List.length_singleton] at hk; lia
   have e : mvTo n (v ++ (w0 ++ [y])) .back = (n, (y :: v) ++ w0) := by
     show (n, lastL (v ++ (w0 ++ [y])) ++ (v ++ (w0 ++ [y])).dropLast) = _
     rw [← List.append_assoc, lastL_snoc, List.dropLast_concat]; rfl
   have ok2 : PlOK n ((y :: v) ++ w0) := plOK_perm ok (by
     rw [← List.append_assoc]
     exact (List.perm_append_singleton y (v ++ w0)).symm)
   obtain ⟨a, b⟩ := back_run k w0 (y :: v) hk2 ok2
   have he : (v ++ (w0 ++ [y])).isEmpty = false := by
     cases v with
     | nil => cases w0 <;> rfl
     | cons z v => rfl
   have hwhy : mvWhy n (v ++ (w0 ++ [y])) .back = .ok := by
     show (if (v ++ (w0 ++ [y])).isEmpty = true then Why.step else Why.ok) = _
     rw [he]; rfl
   show (PlOK n (v ++ (w0 ++ [y])) ∧ mvWhy n (v ++ (w0 ++ [y])) .back = .ok ∧ okMv (mvTo n (v ++ (w0 ++ [y])) .back) (List.replicate k .back)) ∧ runMv (mvTo n (v ++ (w0 ++ [y])) .back) (List.replicate k .back) = _
   rw [e]
   exact ⟨⟨ok, hwhy, a⟩, by rw [b, List.append_assoc]; rfl⟩
noncomputable def sp_law : Sp3 := fun ts M Q => match ts with
 | [.rd s] => ∃ ns : List Int, s = ns.map .int ∧ Q (.bl true) M
 | _ => False
theorem law_starts (ns : List Int) (M : MH) (Q : VK3) (_ : ns.length ≤ 63) (h : Q (.bl true) M) : sp_law [.rd (ns.map .int)] M Q := ⟨ns, rfl, h⟩
theorem ok_law {P : Program} {w : World} {K : PySem.W.Frag} {mg : Str → Option Value} {base : Heap} {f : Addr} {fd : FuncData} {n : Nat}  (F : Fun K "law" "law" s_law f fd) (Z : Zs mg) (D__law_state : Df P w K mg base n "_law_state" ["script", "k"] sp__law_state) (D__law_plait : Df P w K mg base n "_law_plait" ["state", "most", "longest"] sp__law_plait) (D__law_take : Df P w K mg base n "_law_take" ["state", "many"] sp__law_take) (D__law_letter : Df P w K mg base n "_law_letter" ["state", "strands"] sp__law_letter) (D_behind : Df P w K mg base n "behind" ["one", "other"] sp_behind) (D_moved_all : Df P w K mg base n "moved_all" ["plait", "moves"] sp_moved_all) (D_pieces : Df P w K mg base n "pieces" ["plait"] sp_pieces) (D_turns : Df P w K mg base n "turns" ["plait"] sp_turns) (D_mirrored : Df P w K mg base n "mirrored" ["plait"] sp_mirrored) (D_windings : Df P w K mg base n "windings" ["plait"] sp_windings) : FnOk P w K mg base CX0 (n + 1) f fd ["script"] (dSp K sp_law) := by
 refine F.fnk sc_law (by intro ts M Q h; unfold sp_law at h; first | (split at h <;> first | rfl | exact h.elim) | (obtain ⟨_, _, _, _, _, rfl, _⟩ := h; rfl) | (obtain ⟨_, _, _, _, rfl, _⟩ := h; rfl) | (obtain ⟨_, _, _, rfl, _⟩ := h; rfl) | (obtain ⟨_, _, rfl, _⟩ := h; rfl) | (obtain ⟨_, rfl, _⟩ := h; rfl)) ⟨_, fun cdv A outer s H E hr => (ss_cons (s_set (i := 1) (h_call D__law_state hr (a_cons (hv 0) (a_cons h_int a_nil))) sc_law.nd) (ss_cons (s_set (i := 2) (h_call D__law_plait hr (a_cons (hv 1) (a_cons h_int (a_cons h_int a_nil)))) sc_law.nd) (ss_cons (s_set (i := 3) (h_lst a_nil) sc_law.nd) (ss_cons (s_for PassesOwn.never rfl (i_range1 Z.b_range (a_cons (h_bin op3_mul (h_call D__law_take hr (a_cons (hv 1) (a_cons h_int a_nil))) (h_callT call3_int Z.b_int PyProof.Rows.boot_int (a_cons (h_cmp op3_gt (h_ix (hv 2) h_int) h_int (nomark _)) a_nil))) a_nil)) (g_name (i := 4) sc_law.nd) (ss_one (s_expr (h_m_append (hv 3) (a_cons (h_call D__law_letter hr (a_cons (hv 1) (a_cons (h_ix (hv 2) h_int) a_nil))) a_nil))))) (ss_cons (s_set (i := 5) (h_tup (a_cons (h_ix (hv 2) h_int) (a_cons (h_callT call3_tuple Z.b_tuple PyProof.Rows.boot_tuple (a_cons (hv 3) a_nil)) a_nil))) sc_law.nd) (ss_cons (s_set (i := 6) (h_call D_behind hr (a_cons (hv 2) (a_cons (hv 5) a_nil))) sc_law.nd) (ss_cons (s_set (i := 7) (h_call D_behind hr (a_cons (hv 5) (a_cons (hv 2) a_nil))) sc_law.nd) (ss_cons (s_set (i := 8) (h_callB call3_len Z.b_len PySem.boot_len (a_cons (h_ix (hv 2) h_int) a_nil)) sc_law.nd) (ss_cons (s_if (HW.ht (w_or (h_tcmp (op3_ne hr.units) (h_call D_moved_all hr (a_cons (hv 6) (a_cons (h_bin op3_mul (h_lst (@a_consT _ _ _ _ _ _ _ (h_tup (a_cons h_str a_nil)) a_nil)) (hv 8)) a_nil))) (hv 7) (nomark _)) (w_or1 (h_tcmp (op3_ne hr.units) (h_call D_moved_all hr (a_cons (hv 7) (a_cons (h_bin op3_mul (h_lst (@a_consT _ _ _ _ _ _ _ (h_tup (a_cons h_str a_nil)) a_nil)) (hv 8)) a_nil))) (hv 6) (nomark _))))) (ss_one (s_ret h_bl)) ss_nil) (ss_cons (s_if (HW.ht (w_or (h_tcmp (op3_ne hr.units) (h_callB call3_len Z.b_len PySem.boot_len (a_cons (h_call D_pieces hr (a_cons (hv 6) a_nil)) a_nil)) (h_callB call3_len Z.b_len PySem.boot_len (a_cons (h_call D_pieces hr (a_cons (hv 7) a_nil)) a_nil)) (nomark _)) (w_or1 (h_tcmp (op3_ne hr.units) (h_call D_turns hr (a_cons (h_call D_mirrored hr (a_cons (hv 6) a_nil)) a_nil)) (h_bin op3_sub h_int (h_call D_turns hr (a_cons (hv 6) a_nil))) (nomark _))))) (ss_one (s_ret h_bl)) ss_nil) (ss_one (s_ret (h_cmp (op3_eq hr.units) (h_call D_windings hr (a_cons (h_call D_mirrored hr (a_cons (hv 6) a_nil)) a_nil)) (h_comp rfl (i_seq (h_call D_windings hr (a_cons (hv 6) a_nil))) (blk_scope (outer := defScope s_law) (N := ["script", "state", "one", "word", "k", "other", "first", "second", "many"]) (N' := ["a", "b", "number"]) (ix := [none, none, none]) (by decide +kernel) rfl rfl) bt_tup3 (fun _ _ _ _ _ => pg_tup rfl (pgs_cons (pg_name (i := 0) (show List.Nodup (["a", "b", "number"] : List Str) by decide +kernel) rfl (Or.inl rfl) (Or.inr rfl)) (pgs_cons (pg_name (i := 1) (show List.Nodup (["a", "b", "number"] : List Str) by decide +kernel) rfl (Or.inl rfl) (Or.inr rfl)) (pgs_cons (pg_name (i := 2) (show List.Nodup (["a", "b", "number"] : List Str) by decide +kernel) rfl (Or.inl rfl) (Or.inr rfl)) pgs_nil)))) (fun _ _ _ _ _ => ts_nil) (fun _ _ _ _ _ => (h_tup (a_cons (hv 0) (a_cons (hv 1) (a_cons (h_bin op3_sub h_int (hv 2)) a_nil)))))) (nomark _)))))))))))))), fun ts M Q h => ?_⟩
 unfold sp_law at h
 split at h
 · rename_i s
   obtain ⟨ns, rfl, h⟩ := h
   refine seq_cut2 fun K1 hK1 => ?_
   walk_at "rd"
   refine ⟨ns, rfl, by decide, by decide, fun p c0 f0 hp => ?_⟩
   refine ⟨c0, f0, updM_same, by decide, by decide, by decide, by decide, fun n w s1 f1 hn1 hn6 hwl hw => ?_⟩
   simp only [updM_updM]
   have hS0 : Sub M (updM M p (.lst [.int s1, .int f1])) := Sub.new hp
   have hMp0 : (updM M p (.lst [.int s1, .int f1])) p = some (.lst [.int s1, .int f1]) := updM_same
   generalize updM M p (.lst [.int s1, .int f1]) = M0 at hS0 hMp0 ⊢
   rw [hK1]; clear hK1
   refine seq_cut2 fun K2 hK2 => ?_
   walk_at "rd"
   intro q hq
   have npq : p ≠ q := fun z => by rw [← z, hMp0] at hq; cases hq
   have hS1 := hS0.newr hq (o := MO.lst [])
   have hp1 := (Sub.new hq (o := MO.lst [])) _ _ hMp0
   have hq1 : (updM M0 q (MO.lst [])) q = some (.lst (([] : List Int).map T.int)) := updM_same
   generalize updM M0 q (MO.lst []) = M1 at hS1 hp1 hq1 ⊢
   have hqM := none_of hS0 hq
   refine for_cut fun B hB => ?_
   walk_at "rd"
   refine ⟨s1, f1, hp1, by decide, by decide, fun c2 s2 f2 c20 c21 => ?_⟩
   have hS2 := hS1.updF hp (o := MO.lst [T.int s2, T.int f2])
   have hp2 : (updM M1 p (MO.lst [T.int s2, T.int f2])) p = some (.lst [.int s2, .int f2]) := updM_same
   have hq2 : (updM M1 p (MO.lst [T.int s2, T.int f2])) q = some (.lst (([] : List Int).map T.int)) := by rw [updM_ne npq.symm]; exact hq1
   generalize updM M1 p (MO.lst [T.int s2, T.int f2]) = M2 at hS2 hp2 hq2 ⊢
   clear hS0 hS1 hp1 hq1 hMp0 hq
   have hb : ∃ k : Int, (if 1 < n then (1 : Int) else 0) = k ∧ ((k = 0) ∨ (k = 1 ∧ 2 ≤ n)) := by
     by_cases c : 1 < n
     · exact ⟨1, if_pos c, .inr ⟨rfl, by lia⟩⟩
     · exact ⟨0, if_neg c, .inl rfl⟩
   obtain ⟨k, ek, hb⟩ := hb
   walk_at "rd"
   rw [ek]
   have hck : 0 ≤ c2 * k ∧ c2 * k ≤ 7 ∧ (0 < c2 * k → 2 ≤ n) := by
     rcases hb with rfl | ⟨rfl, h2⟩
     · rw [Int.mul_zero]; lia
     · rw [Int.mul_one]; lia
   have hcm : CMul c2 k := .inl ⟨by lia, by lia⟩
   generalize c2 * k = cnt at hck ⊢
   refine ⟨hcm, by lia, by lia, fun i ρ M' => (∃ (a5 a6 a7 a8 : Option T) , ρ = [some (T.rd (List.map T.int ns)), some (T.adr p), some (T.tup [T.int n, T.tup (List.map T.int w)]), some (T.adr q), a5, a6, a7, a8, none]) ∧ (∃ v s' f', M' q = some (.lst (List.map T.int v)) ∧ v.length = i ∧ WordOK n v ∧ M' p = some (.lst [.int s', .int f'])) ∧ Sub M M', ⟨⟨_, _, _, _, rfl⟩, ⟨[], s2, f2, hq2, rfl, WordOK.nil, hp2⟩, hS2⟩, fun _ _ _ _ => trivial, ?_, ?_⟩
   · rintro i x ρ M' hx ⟨⟨a5, a6, a7, a8, rfl⟩, ⟨v, s', f', hv, hvl, hvok, hp'⟩, hS3⟩
     obtain ⟨hi, rfl⟩ := rangeT0_get hx
     rw [hB]
     walk_at "rd"
     rw [hv]
     refine ⟨trivial, s', f', hp', by lia, by lia, fun l s3 f3 hl => ?_⟩
     have hv2 : (updM M' p (MO.lst [T.int s3, T.int f3])) q = some (.lst (v.map T.int)) := by rw [updM_ne npq.symm]; exact hv
     dsimp only
     rw [hv2]
     dsimp only
     refine ⟨by rw [List.length_map]; exact line_len (by lia), ⟨_, _, _, _, rfl⟩, ⟨v ++ [l], s3, f3, by rw [List.map_append]; rfl, by rw [List.length_append, hvl]; rfl, hvok.append fun x hx => by rw [List.mem_singleton.mp hx]; exact hl, ?_⟩, ?_⟩
     · rw [updM_ne npq, updM_same]
     · exact (hS3.updF hp).updF hqM
   · rintro ρ M' ⟨⟨a5, a6, a7, a8, rfl⟩, ⟨v, s', f', hv, hvl, hvok, hp'⟩, hS3⟩
     rw [rangeT_length] at hvl
     rw [hK2]; clear hK2
     have hvl7 : v.length ≤ 7 := by lia
     have ow : PlOK n w := ⟨hn1, by lia, by lia, hw⟩
     have ov : PlOK n v := ⟨hn1, by lia, by lia, hvok⟩
     have oa : PlOK n (w ++ v) := ⟨hn1, by lia, by rw [List.length_append]; lia, hw.append hvok⟩
     have ob : PlOK n (v ++ w) := ⟨hn1, by lia, by rw [List.length_append]; lia, hvok.append hw⟩
     refine seq_cut4 fun K3 hK3 => ?_
     walk_at "rd"
     rw [hv]
     dsimp only
     refine ⟨by decide, w, v, rfl, rfl, rfl, ow, ov, by lia, v, w, rfl, rfl, rfl, ov, ow, by lia, ?_⟩
     clear hB
     generalize hM9 : M' = M9 at hS3 ⊢
     clear hM9 hv hp' M'
     rw [hK3]; clear hK3
     refine seq_cut fun K4 hK4 => ?_
     walk_at "rd"
     have hwz : ((w.length : Nat) : Int).toNat = w.length := by lia
     rw [hwz]
     refine ⟨by decide, by decide, fun u hu => ⟨by lia, by lia, line_len' (by lia), fun t ht => ?_⟩⟩
     have hS4 := (hS3.newr hu (o := MO.lst [T.tup [T.str (Str.ofString "round")]])).newr ht (o := MO.lst (List.replicate w.length [T.tup [T.str (Str.ofString "round")]]).flatten)
     have ht4 : (updM (updM M9 u (MO.lst [T.tup [T.str (Str.ofString "round")]])) t (MO.lst (List.replicate w.length [T.tup [T.str (Str.ofString "round")]]).flatten)) t = some (.lst ((List.replicate w.length Mv.round).map mvT)) := by rw [updM_same, ← rep_mv]; rfl
     generalize updM (updM M9 u (MO.lst [T.tup [T.str (Str.ofString "round")]])) t (MO.lst (List.replicate w.length [T.tup [T.str (Str.ofString "round")]]).flatten) = M4 at hS4 ht4 ⊢
     clear hS3 hu ht
     obtain ⟨r1, r2⟩ := round_run w v oa
     obtain ⟨b1, b2⟩ := back_run w.length w v rfl ob
     refine ⟨w ++ v, _, rfl, ht4, r1, ?_⟩
     rw [r2]
     refine ⟨(ptP n (v ++ w)).1, (ptP n (v ++ w)).2, ?_⟩
     rw [show eqT (ptT (n, v ++ w)) (T.tup [T.int n, T.tup (List.map T.int (v ++ w))]) = true from eqT_refl _ (ptP n (v ++ w)).1, if_neg (by decide)]
     refine ⟨by decide, by decide, fun u2 hu2 => ⟨by lia, by lia, line_len' (by lia), fun t2 ht2 => ?_⟩⟩
     have hS5 := (hS4.newr hu2 (o := MO.lst [T.tup [T.str (Str.ofString "back")]])).newr ht2 (o := MO.lst (List.replicate w.length [T.tup [T.str (Str.ofString "back")]]).flatten)
     have ht5 : (updM (updM M4 u2 (MO.lst [T.tup [T.str (Str.ofString "back")]])) t2 (MO.lst (List.replicate w.length [T.tup [T.str (Str.ofString "back")]]).flatten)) t2 = some (.lst ((List.replicate w.length Mv.back).map mvT)) := by rw [updM_same, ← rep_mv]; rfl
     generalize updM (updM M4 u2 (MO.lst [T.tup [T.str (Str.ofString "back")]])) t2 (MO.lst (List.replicate w.length [T.tup [T.str (Str.ofString "back")]]).flatten) = M5 at hS5 ht5 ⊢
     refine ⟨v ++ w, _, rfl, ht5, b1, ?_⟩
     rw [b2]
     refine ⟨(ptP n (w ++ v)).1, (ptP n (w ++ v)).2, ?_⟩
     rw [show eqT (ptT (n, w ++ v)) (T.tup [T.int n, T.tup (List.map T.int (w ++ v))]) = true from eqT_refl _ (ptP n (w ++ v)).1, if_neg (by decide)]
     clear hS4 ht4 ht5 hu2 ht2 r1 r2 b1 b2
     rw [hK4]; clear hK4
     refine seq_cut fun K5 hK5 => ?_
     walk_at "rd"
     refine ⟨w ++ v, rfl, oa, fun r as M6 hr hS6 hr6 hL6 hF6 => ?_⟩
     dsimp only
     rw [hr6]
     dsimp only
     refine ⟨v ++ w, rfl, ob, fun r2 as2 M7 hr2 hS7 hr7 hL7 hF7 => ?_⟩
     dsimp only
     rw [hr7]
     dsimp only
     have hcnt : ((as.map T.adr).length : Int) = (as2.map T.adr).length := by
       rw [List.length_map, List.length_map, hL6.1, hL7.1, pcs_round hn1 (by lia) w v oa.2.2.2]
     rw [if_neg (fun z => z hcnt)]
     have hS8 := (hS5.trans hS6).trans hS7
     clear hS5 hS6 hS7 hr hr6 hL6 hF6 hr2 hr7 hL7 hF7 hcnt
     have on : PlOK n ((w ++ v).map fun l => -l) := ⟨hn1, by lia, by rw [List.length_map]; exact oa.2.2.1, fun x hx => by
       obtain ⟨y, hy, rfl⟩ := List.mem_map.mp hx
       obtain ⟨z1, z2⟩ := oa.2.2.2 y hy
       exact ⟨by rw [Int.natAbs_neg]; exact z1, by rw [Int.natAbs_neg]; exact z2⟩⟩
     have hnz : ∀ l ∈ w ++ v, l ≠ 0 := fun l hl => by
       obtain ⟨z1, z2⟩ := oa.2.2.2 l hl
       lia
     refine ⟨w ++ v, rfl, oa, _, rfl, on, w ++ v, rfl, oa, ?_⟩
     dsimp only
     refine ⟨rfl, by rw [depT_int]; decide, ?_⟩
     have et : (((w ++ v).map fun l => -l).map sgI).sum = 0 - ((w ++ v).map sgI).sum := by
       generalize w ++ v = u at hnz
       induction u with
       | nil => rfl
       | cons l u ih =>
         rw [List.map_cons, List.map_cons, List.map_cons, List.sum_cons, List.sum_cons, ih (fun x hx => hnz x (.tail _ hx))]
         have h0 := hnz l (.head _)
         have e : sgI (-l) = -sgI l := by unfold sgI; split <;> split <;> lia
         rw [e]; lia
     rw [eqT_int, decide_eq_true et, if_neg (by decide)]
     rw [hK5]; clear hK5
     walk_at "rd"
     refine ⟨w ++ v, rfl, oa, _, rfl, on, fun c1 M10 hc1 hS10 hc10 => ?_⟩
     refine ⟨w ++ v, rfl, oa, fun c2 M11 hc2 hS11 hc11 => ?_⟩
     dsimp only
     rw [hc11]
     dsimp only
     have hWl : (windL n (w ++ v) (crL (range0 n) (w ++ v))).length < 10000 := by
       obtain ⟨hm6, _⟩ := pcs_nu hn1 (by lia) oa.2.2.2
       unfold windL prs
       rw [List.length_map]
       have := prsU_len hm6 (pcs (orderL n (w ++ v)) n).length (Nat.le_refl _)
       lia
     have hc10b := hS11 _ _ hc10
     rw [wind_neg hn1 (by lia) oa.2.2.2] at hc10b
     have hS12 := (hS8.trans hS10).trans hS11
     clear hc10 hc1 hc2
     generalize windL n (w ++ v) (crL (range0 n) (w ++ v)) = W at hc11 hWl hc10b ⊢
     refine ⟨fun i ys M' => ys = ((W.take i).map fun x => (x.1, x.2.1, 0 - x.2.2)).map crT ∧ M' = M11, ⟨rfl, rfl⟩, ?_, by rw [List.length_map]; exact line_len hWl, ?_, ?_⟩
     · rintro i ys M' ⟨_, rfl⟩
       exact hc11
     · rintro i x ys M' hx ⟨rfl, rfl⟩
       obtain ⟨⟨a1, a2, a3⟩, hx2, rfl⟩ : ∃ z, W[i]? = some z ∧ crT z = x := by
         rw [List.getElem?_map] at hx
         exact Option.map_eq_some_iff.mp hx
       unfold crT
       dsimp only
       refine ⟨rfl, rfl, ?_⟩
       refine ⟨by decide, ?_, rfl⟩
       rw [take_succ_snoc hx2, List.map_append, List.map_append]; rfl
     · rintro ys M' ⟨rfl, rfl⟩ p9 hp9
       rw [List.length_map, List.take_length]
       have hS13 := Sub.new hp9 (o := MO.lst ((W.map fun x => (x.1, x.2.1, 0 - x.2.2)).map crT))
       rw [hS13 _ _ hc10b, updM_same]
       dsimp only
       refine ⟨(crT_pure _).1, (crT_pure _).1, (crT_pure _).2, ?_⟩
       rw [eqTs_refl _ (crT_pure _).1]
       exact rt3_sub h (hS12.newr hp9)
 · exact h.elim
theorem all_mk {l : PySem.W.OpenLaw} {w : World} {K : PySem.W.Frag} {h : Heap} {mg : Str → Option Value} {fa f1 f2 f3 f4 f5 f6 f7 f8 f9 f10 f11 f12 f13 f14 f15 f16 f17 f18 f19 f20 f21 f22 f23 f24 f25 f26 f27 f28 f29 f30 f31 f32 f33 f34 f35 f36 f37 f38 f39 f40 : Addr} (X : K.In h) (G : h.Ns mainGlobals mg) (hfa : mg "law" = some (.ref fa))
   {od1 od2 od3 od4 od5 od6 od7 od8 od9 od10 od11 od12 od13 od14 od15 od16 od17 od18 od19 od20 od21 od22 od23 od24 od25 od26 od27 od28 od29 od30 od31 od32 od33 od34 od35 od36 od37 od38 od39 od40 an1 an2 an3 an4 an5 an6 an7 an8 an9 an10 an11 an12 an13 an14 an15 an16 an17 an18 an19 an20 an21 an22 an23 an24 an25 an26 an27 an28 an29 an30 an31 an32 an33 an34 an35 an36 an37 an38 an39 an40 : Option Addr} {sl1 sl2 sl3 sl4 sl5 sl6 sl7 sl8 sl9 sl10 sl11 sl12 sl13 sl14 sl15 sl16 sl17 sl18 sl19 sl20 sl21 sl22 sl23 sl24 sl25 sl26 sl27 sl28 sl29 sl30 sl31 sl32 sl33 sl34 sl35 sl36 sl37 sl38 sl39 sl40 : Array (Option Value)} {oc1 oc2 oc3 oc4 oc5 oc6 oc7 oc8 oc9 oc10 oc11 oc12 oc13 oc14 oc15 oc16 oc17 oc18 oc19 oc20 oc21 oc22 oc23 oc24 oc25 oc26 oc27 oc28 oc29 oc30 oc31 oc32 oc33 oc34 oc35 oc36 oc37 oc38 oc39 oc40 kV1 kV2 kV3 kV4 kV5 kV6 kV7 kV8 kV9 kV10 kV11 kV12 kV13 kV14 kV15 kV16 kV17 kV18 kV19 kV20 kV21 kV22 kV23 kV24 kV25 kV26 kV27 kV28 kV29 kV30 kV31 kV32 kV33 kV34 kV35 kV36 kV37 kV38 kV39 kV40 dc1 dc2 dc3 dc4 dc5 dc6 dc7 dc8 dc9 dc10 dc11 dc12 dc13 dc14 dc15 dc16 dc17 dc18 dc19 dc20 dc21 dc22 dc23 dc24 dc25 dc26 dc27 dc28 dc29 dc30 dc31 dc32 dc33 dc34 dc35 dc36 dc37 dc38 dc39 dc40 pm1 pm2 pm3 pm4 pm5 pm6 pm7 pm8 pm9 pm10 pm11 pm12 pm13 pm14 pm15 pm16 pm17 pm18 pm19 pm20 pm21 pm22 pm23 pm24 pm25 pm26 pm27 pm28 pm29 pm30 pm31 pm32 pm33 pm34 pm35 pm36 pm37 pm38 pm39 pm40 cd1 cd2 cd3 cd4 cd5 cd6 cd7 cd8 cd9 cd10 cd11 cd12 cd13 cd14 cd15 cd16 cd17 cd18 cd19 cd20 cd21 cd22 cd23 cd24 cd25 cd26 cd27 cd28 cd29 cd30 cd31 cd32 cd33 cd34 cd35 cd36 cd37 cd38 cd39 cd40 ct1 ct2 ct3 ct4 ct5 ct6 ct7 ct8 ct9 ct10 ct11 ct12 ct13 ct14 ct15 ct16 ct17 ct18 ct19 ct20 ct21 ct22 ct23 ct24 ct25 ct26 ct27 ct28 ct29 ct30 ct31 ct32 ct33 ct34 ct35 ct36 ct37 ct38 ct39 ct40 : Value}
   (a1 : PySem.W.nsIn K mainGlobals "is_letter" = some (some (.ref f1))) (l1 : K.lookup f1 = some ⟨oc1, od1, .func (PySem.W.fnOf "is_letter" "is_letter" (defArgs s_is_letter) (defBody s_is_letter) (defScope s_is_letter) .none kV1 dc1 pm1 an1 cd1 ct1), sl1⟩) (c1 : PySem.W.codeIn K cd1 "is_letter" = true) (k1 : PySem.W.keepIn K (.ref f1) = true)
   (a2 : PySem.W.nsIn K mainGlobals "is_word" = some (some (.ref f2))) (l2 : K.lookup f2 = some ⟨oc2, od2, .func (PySem.W.fnOf "is_word" "is_word" (defArgs s_is_word) (defBody s_is_word) (defScope s_is_word) .none kV2 dc2 pm2 an2 cd2 ct2), sl2⟩) (c2 : PySem.W.codeIn K cd2 "is_word" = true) (k2 : PySem.W.keepIn K (.ref f2) = true)
   (a3 : PySem.W.nsIn K mainGlobals "is_plait" = some (some (.ref f3))) (l3 : K.lookup f3 = some ⟨oc3, od3, .func (PySem.W.fnOf "is_plait" "is_plait" (defArgs s_is_plait) (defBody s_is_plait) (defScope s_is_plait) .none kV3 dc3 pm3 an3 cd3 ct3), sl3⟩) (c3 : PySem.W.codeIn K cd3 "is_plait" = true) (k3 : PySem.W.keepIn K (.ref f3) = true)
   (a4 : PySem.W.nsIn K mainGlobals "looked" = some (some (.ref f4))) (l4 : K.lookup f4 = some ⟨oc4, od4, .func (PySem.W.fnOf "looked" "looked" (defArgs s_looked) (defBody s_looked) (defScope s_looked) .none kV4 dc4 pm4 an4 cd4 ct4), sl4⟩) (c4 : PySem.W.codeIn K cd4 "looked" = true) (k4 : PySem.W.keepIn K (.ref f4) = true)
   (a5 : PySem.W.nsIn K mainGlobals "looked_both" = some (some (.ref f5))) (l5 : K.lookup f5 = some ⟨oc5, od5, .func (PySem.W.fnOf "looked_both" "looked_both" (defArgs s_looked_both) (defBody s_looked_both) (defScope s_looked_both) .none kV5 dc5 pm5 an5 cd5 ct5), sl5⟩) (c5 : PySem.W.codeIn K cd5 "looked_both" = true) (k5 : PySem.W.keepIn K (.ref f5) = true)
   (a6 : PySem.W.nsIn K mainGlobals "exchanged" = some (some (.ref f6))) (l6 : K.lookup f6 = some ⟨oc6, od6, .func (PySem.W.fnOf "exchanged" "exchanged" (defArgs s_exchanged) (defBody s_exchanged) (defScope s_exchanged) .none kV6 dc6 pm6 an6 cd6 ct6), sl6⟩) (c6 : PySem.W.codeIn K cd6 "exchanged" = true) (k6 : PySem.W.keepIn K (.ref f6) = true)
   (a7 : PySem.W.nsIn K mainGlobals "places_in" = some (some (.ref f7))) (l7 : K.lookup f7 = some ⟨oc7, od7, .func (PySem.W.fnOf "places_in" "places_in" (defArgs s_places_in) (defBody s_places_in) (defScope s_places_in) .none kV7 dc7 pm7 an7 cd7 ct7), sl7⟩) (c7 : PySem.W.codeIn K cd7 "places_in" = true) (k7 : PySem.W.keepIn K (.ref f7) = true)
   (a8 : PySem.W.nsIn K mainGlobals "behind" = some (some (.ref f8))) (l8 : K.lookup f8 = some ⟨oc8, od8, .func (PySem.W.fnOf "behind" "behind" (defArgs s_behind) (defBody s_behind) (defScope s_behind) .none kV8 dc8 pm8 an8 cd8 ct8), sl8⟩) (c8 : PySem.W.codeIn K cd8 "behind" = true) (k8 : PySem.W.keepIn K (.ref f8) = true)
   (a9 : PySem.W.nsIn K mainGlobals "mirrored" = some (some (.ref f9))) (l9 : K.lookup f9 = some ⟨oc9, od9, .func (PySem.W.fnOf "mirrored" "mirrored" (defArgs s_mirrored) (defBody s_mirrored) (defScope s_mirrored) .none kV9 dc9 pm9 an9 cd9 ct9), sl9⟩) (c9 : PySem.W.codeIn K cd9 "mirrored" = true) (k9 : PySem.W.keepIn K (.ref f9) = true)
   (a10 : PySem.W.nsIn K mainGlobals "flipped_letter" = some (some (.ref f10))) (l10 : K.lookup f10 = some ⟨oc10, od10, .func (PySem.W.fnOf "flipped_letter" "flipped_letter" (defArgs s_flipped_letter) (defBody s_flipped_letter) (defScope s_flipped_letter) .none kV10 dc10 pm10 an10 cd10 ct10), sl10⟩) (c10 : PySem.W.codeIn K cd10 "flipped_letter" = true) (k10 : PySem.W.keepIn K (.ref f10) = true)
   (a11 : PySem.W.nsIn K mainGlobals "flipped" = some (some (.ref f11))) (l11 : K.lookup f11 = some ⟨oc11, od11, .func (PySem.W.fnOf "flipped" "flipped" (defArgs s_flipped) (defBody s_flipped) (defScope s_flipped) .none kV11 dc11 pm11 an11 cd11 ct11), sl11⟩) (c11 : PySem.W.codeIn K cd11 "flipped" = true) (k11 : PySem.W.keepIn K (.ref f11) = true)
   (a12 : PySem.W.nsIn K mainGlobals "order_of" = some (some (.ref f12))) (l12 : K.lookup f12 = some ⟨oc12, od12, .func (PySem.W.fnOf "order_of" "order_of" (defArgs s_order_of) (defBody s_order_of) (defScope s_order_of) .none kV12 dc12 pm12 an12 cd12 ct12), sl12⟩) (c12 : PySem.W.codeIn K cd12 "order_of" = true) (k12 : PySem.W.keepIn K (.ref f12) = true)
   (a13 : PySem.W.nsIn K mainGlobals "looked_word" = some (some (.ref f13))) (l13 : K.lookup f13 = some ⟨oc13, od13, .func (PySem.W.fnOf "looked_word" "looked_word" (defArgs s_looked_word) (defBody s_looked_word) (defScope s_looked_word) .none kV13 dc13 pm13 an13 cd13 ct13), sl13⟩) (c13 : PySem.W.codeIn K cd13 "looked_word" = true) (k13 : PySem.W.keepIn K (.ref f13) = true)
   (a14 : PySem.W.nsIn K mainGlobals "can_far" = some (some (.ref f14))) (l14 : K.lookup f14 = some ⟨oc14, od14, .func (PySem.W.fnOf "can_far" "can_far" (defArgs s_can_far) (defBody s_can_far) (defScope s_can_far) .none kV14 dc14 pm14 an14 cd14 ct14), sl14⟩) (c14 : PySem.W.codeIn K cd14 "can_far" = true) (k14 : PySem.W.keepIn K (.ref f14) = true)
   (a15 : PySem.W.nsIn K mainGlobals "can_three" = some (some (.ref f15))) (l15 : K.lookup f15 = some ⟨oc15, od15, .func (PySem.W.fnOf "can_three" "can_three" (defArgs s_can_three) (defBody s_can_three) (defScope s_can_three) .none kV15 dc15 pm15 an15 cd15 ct15), sl15⟩) (c15 : PySem.W.codeIn K cd15 "can_three" = true) (k15 : PySem.W.keepIn K (.ref f15) = true)
   (a16 : PySem.W.nsIn K mainGlobals "can_out" = some (some (.ref f16))) (l16 : K.lookup f16 = some ⟨oc16, od16, .func (PySem.W.fnOf "can_out" "can_out" (defArgs s_can_out) (defBody s_can_out) (defScope s_can_out) .none kV16 dc16 pm16 an16 cd16 ct16), sl16⟩) (c16 : PySem.W.codeIn K cd16 "can_out" = true) (k16 : PySem.W.keepIn K (.ref f16) = true)
   (a17 : PySem.W.nsIn K mainGlobals "signed" = some (some (.ref f17))) (l17 : K.lookup f17 = some ⟨oc17, od17, .func (PySem.W.fnOf "signed" "signed" (defArgs s_signed) (defBody s_signed) (defScope s_signed) .none kV17 dc17 pm17 an17 cd17 ct17), sl17⟩) (c17 : PySem.W.codeIn K cd17 "signed" = true) (k17 : PySem.W.keepIn K (.ref f17) = true)
   (a18 : PySem.W.nsIn K mainGlobals "with_three" = some (some (.ref f18))) (l18 : K.lookup f18 = some ⟨oc18, od18, .func (PySem.W.fnOf "with_three" "with_three" (defArgs s_with_three) (defBody s_with_three) (defScope s_with_three) .none kV18 dc18 pm18 an18 cd18 ct18), sl18⟩) (c18 : PySem.W.codeIn K cd18 "with_three" = true) (k18 : PySem.W.keepIn K (.ref f18) = true)
   (a19 : PySem.W.nsIn K mainGlobals "with_in" = some (some (.ref f19))) (l19 : K.lookup f19 = some ⟨oc19, od19, .func (PySem.W.fnOf "with_in" "with_in" (defArgs s_with_in) (defBody s_with_in) (defScope s_with_in) .none kV19 dc19 pm19 an19 cd19 ct19), sl19⟩) (c19 : PySem.W.codeIn K cd19 "with_in" = true) (k19 : PySem.W.keepIn K (.ref f19) = true)
   (a20 : PySem.W.nsIn K mainGlobals "done" = some (some (.ref f20))) (l20 : K.lookup f20 = some ⟨oc20, od20, .func (PySem.W.fnOf "done" "done" (defArgs s_done) (defBody s_done) (defScope s_done) .none kV20 dc20 pm20 an20 cd20 ct20), sl20⟩) (c20 : PySem.W.codeIn K cd20 "done" = true) (k20 : PySem.W.keepIn K (.ref f20) = true)
   (a21 : PySem.W.nsIn K mainGlobals "stepped" = some (some (.ref f21))) (l21 : K.lookup f21 = some ⟨oc21, od21, .func (PySem.W.fnOf "stepped" "stepped" (defArgs s_stepped) (defBody s_stepped) (defScope s_stepped) .none kV21 dc21 pm21 an21 cd21 ct21), sl21⟩) (c21 : PySem.W.codeIn K cd21 "stepped" = true) (k21 : PySem.W.keepIn K (.ref f21) = true)
   (a22 : PySem.W.nsIn K mainGlobals "piece_from" = some (some (.ref f22))) (l22 : K.lookup f22 = some ⟨oc22, od22, .func (PySem.W.fnOf "piece_from" "piece_from" (defArgs s_piece_from) (defBody s_piece_from) (defScope s_piece_from) .none kV22 dc22 pm22 an22 cd22 ct22), sl22⟩) (c22 : PySem.W.codeIn K cd22 "piece_from" = true) (k22 : PySem.W.keepIn K (.ref f22) = true)
   (a23 : PySem.W.nsIn K mainGlobals "pieces" = some (some (.ref f23))) (l23 : K.lookup f23 = some ⟨oc23, od23, .func (PySem.W.fnOf "pieces" "pieces" (defArgs s_pieces) (defBody s_pieces) (defScope s_pieces) .none kV23 dc23 pm23 an23 cd23 ct23), sl23⟩) (c23 : PySem.W.codeIn K cd23 "pieces" = true) (k23 : PySem.W.keepIn K (.ref f23) = true)
   (a24 : PySem.W.nsIn K mainGlobals "sign_of" = some (some (.ref f24))) (l24 : K.lookup f24 = some ⟨oc24, od24, .func (PySem.W.fnOf "sign_of" "sign_of" (defArgs s_sign_of) (defBody s_sign_of) (defScope s_sign_of) .none kV24 dc24 pm24 an24 cd24 ct24), sl24⟩) (c24 : PySem.W.codeIn K cd24 "sign_of" = true) (k24 : PySem.W.keepIn K (.ref f24) = true)
   (a25 : PySem.W.nsIn K mainGlobals "turns" = some (some (.ref f25))) (l25 : K.lookup f25 = some ⟨oc25, od25, .func (PySem.W.fnOf "turns" "turns" (defArgs s_turns) (defBody s_turns) (defScope s_turns) .none kV25 dc25 pm25 an25 cd25 ct25), sl25⟩) (c25 : PySem.W.codeIn K cd25 "turns" = true) (k25 : PySem.W.keepIn K (.ref f25) = true)
   (a26 : PySem.W.nsIn K mainGlobals "crossings" = some (some (.ref f26))) (l26 : K.lookup f26 = some ⟨oc26, od26, .func (PySem.W.fnOf "crossings" "crossings" (defArgs s_crossings) (defBody s_crossings) (defScope s_crossings) .none kV26 dc26 pm26 an26 cd26 ct26), sl26⟩) (c26 : PySem.W.codeIn K cd26 "crossings" = true) (k26 : PySem.W.keepIn K (.ref f26) = true)
   (a27 : PySem.W.nsIn K mainGlobals "piece_numbers" = some (some (.ref f27))) (l27 : K.lookup f27 = some ⟨oc27, od27, .func (PySem.W.fnOf "piece_numbers" "piece_numbers" (defArgs s_piece_numbers) (defBody s_piece_numbers) (defScope s_piece_numbers) .none kV27 dc27 pm27 an27 cd27 ct27), sl27⟩) (c27 : PySem.W.codeIn K cd27 "piece_numbers" = true) (k27 : PySem.W.keepIn K (.ref f27) = true)
   (a28 : PySem.W.nsIn K mainGlobals "windings" = some (some (.ref f28))) (l28 : K.lookup f28 = some ⟨oc28, od28, .func (PySem.W.fnOf "windings" "windings" (defArgs s_windings) (defBody s_windings) (defScope s_windings) .none kV28 dc28 pm28 an28 cd28 ct28), sl28⟩) (c28 : PySem.W.codeIn K cd28 "windings" = true) (k28 : PySem.W.keepIn K (.ref f28) = true)
   (a29 : PySem.W.nsIn K mainGlobals "with_round" = some (some (.ref f29))) (l29 : K.lookup f29 = some ⟨oc29, od29, .func (PySem.W.fnOf "with_round" "with_round" (defArgs s_with_round) (defBody s_with_round) (defScope s_with_round) .none kV29 dc29 pm29 an29 cd29 ct29), sl29⟩) (c29 : PySem.W.codeIn K cd29 "with_round" = true) (k29 : PySem.W.keepIn K (.ref f29) = true)
   (a30 : PySem.W.nsIn K mainGlobals "with_back" = some (some (.ref f30))) (l30 : K.lookup f30 = some ⟨oc30, od30, .func (PySem.W.fnOf "with_back" "with_back" (defArgs s_with_back) (defBody s_with_back) (defScope s_with_back) .none kV30 dc30 pm30 an30 cd30 ct30), sl30⟩) (c30 : PySem.W.codeIn K cd30 "with_back" = true) (k30 : PySem.W.keepIn K (.ref f30) = true)
   (a31 : PySem.W.nsIn K mainGlobals "with_less" = some (some (.ref f31))) (l31 : K.lookup f31 = some ⟨oc31, od31, .func (PySem.W.fnOf "with_less" "with_less" (defArgs s_with_less) (defBody s_with_less) (defScope s_with_less) .none kV31 dc31 pm31 an31 cd31 ct31), sl31⟩) (c31 : PySem.W.codeIn K cd31 "with_less" = true) (k31 : PySem.W.keepIn K (.ref f31) = true)
   (a32 : PySem.W.nsIn K mainGlobals "with_more" = some (some (.ref f32))) (l32 : K.lookup f32 = some ⟨oc32, od32, .func (PySem.W.fnOf "with_more" "with_more" (defArgs s_with_more) (defBody s_with_more) (defScope s_with_more) .none kV32 dc32 pm32 an32 cd32 ct32), sl32⟩) (c32 : PySem.W.codeIn K cd32 "with_more" = true) (k32 : PySem.W.keepIn K (.ref f32) = true)
   (a33 : PySem.W.nsIn K mainGlobals "with_step" = some (some (.ref f33))) (l33 : K.lookup f33 = some ⟨oc33, od33, .func (PySem.W.fnOf "with_step" "with_step" (defArgs s_with_step) (defBody s_with_step) (defScope s_with_step) .none kV33 dc33 pm33 an33 cd33 ct33), sl33⟩) (c33 : PySem.W.codeIn K cd33 "with_step" = true) (k33 : PySem.W.keepIn K (.ref f33) = true)
   (a34 : PySem.W.nsIn K mainGlobals "moved" = some (some (.ref f34))) (l34 : K.lookup f34 = some ⟨oc34, od34, .func (PySem.W.fnOf "moved" "moved" (defArgs s_moved) (defBody s_moved) (defScope s_moved) .none kV34 dc34 pm34 an34 cd34 ct34), sl34⟩) (c34 : PySem.W.codeIn K cd34 "moved" = true) (k34 : PySem.W.keepIn K (.ref f34) = true)
   (a35 : PySem.W.nsIn K mainGlobals "moved_all" = some (some (.ref f35))) (l35 : K.lookup f35 = some ⟨oc35, od35, .func (PySem.W.fnOf "moved_all" "moved_all" (defArgs s_moved_all) (defBody s_moved_all) (defScope s_moved_all) .none kV35 dc35 pm35 an35 cd35 ct35), sl35⟩) (c35 : PySem.W.codeIn K cd35 "moved_all" = true) (k35 : PySem.W.keepIn K (.ref f35) = true)
   (a36 : PySem.W.nsIn K mainGlobals "_law_state" = some (some (.ref f36))) (l36 : K.lookup f36 = some ⟨oc36, od36, .func (PySem.W.fnOf "_law_state" "_law_state" (defArgs s__law_state) (defBody s__law_state) (defScope s__law_state) .none kV36 dc36 pm36 an36 cd36 ct36), sl36⟩) (c36 : PySem.W.codeIn K cd36 "_law_state" = true) (k36 : PySem.W.keepIn K (.ref f36) = true)
   (a37 : PySem.W.nsIn K mainGlobals "_law_take" = some (some (.ref f37))) (l37 : K.lookup f37 = some ⟨oc37, od37, .func (PySem.W.fnOf "_law_take" "_law_take" (defArgs s__law_take) (defBody s__law_take) (defScope s__law_take) .none kV37 dc37 pm37 an37 cd37 ct37), sl37⟩) (c37 : PySem.W.codeIn K cd37 "_law_take" = true) (k37 : PySem.W.keepIn K (.ref f37) = true)
   (a38 : PySem.W.nsIn K mainGlobals "_law_letter" = some (some (.ref f38))) (l38 : K.lookup f38 = some ⟨oc38, od38, .func (PySem.W.fnOf "_law_letter" "_law_letter" (defArgs s__law_letter) (defBody s__law_letter) (defScope s__law_letter) .none kV38 dc38 pm38 an38 cd38 ct38), sl38⟩) (c38 : PySem.W.codeIn K cd38 "_law_letter" = true) (k38 : PySem.W.keepIn K (.ref f38) = true)
   (a39 : PySem.W.nsIn K mainGlobals "_law_plait" = some (some (.ref f39))) (l39 : K.lookup f39 = some ⟨oc39, od39, .func (PySem.W.fnOf "_law_plait" "_law_plait" (defArgs s__law_plait) (defBody s__law_plait) (defScope s__law_plait) .none kV39 dc39 pm39 an39 cd39 ct39), sl39⟩) (c39 : PySem.W.codeIn K cd39 "_law_plait" = true) (k39 : PySem.W.keepIn K (.ref f39) = true)
   (a40 : PySem.W.nsIn K mainGlobals "law" = some (some (.ref f40))) (l40 : K.lookup f40 = some ⟨oc40, od40, .func (PySem.W.fnOf "law" "law" (defArgs s_law) (defBody s_law) (defScope s_law) .none kV40 dc40 pm40 an40 cd40 ct40), sl40⟩) (c40 : PySem.W.codeIn K cd40 "law" = true) (k40 : PySem.W.keepIn K (.ref f40) = true)
   (z_abs : PySem.W.nsIn K mainGlobals "abs" = some none)
   (z_all : PySem.W.nsIn K mainGlobals "all" = some none)
   (z_enumerate : PySem.W.nsIn K mainGlobals "enumerate" = some none)
   (z_int : PySem.W.nsIn K mainGlobals "int" = some none)
   (z_len : PySem.W.nsIn K mainGlobals "len" = some none)
   (z_max : PySem.W.nsIn K mainGlobals "max" = some none)
   (z_min : PySem.W.nsIn K mainGlobals "min" = some none)
   (z_range : PySem.W.nsIn K mainGlobals "range" = some none)
   (z_sorted : PySem.W.nsIn K mainGlobals "sorted" = some none)
   (z_sum : PySem.W.nsIn K mainGlobals "sum" = some none)
   (z_tuple : PySem.W.nsIn K mainGlobals "tuple" = some none)
   {tk_MOST_LETTERS : Tok} (g_MOST_LETTERS : PySem.W.nsIn K mainGlobals "MOST_LETTERS" = some (some (.int 16 tk_MOST_LETTERS)))
   {tk_MOST_LETTERS_IN_STEPS : Tok} (g_MOST_LETTERS_IN_STEPS : PySem.W.nsIn K mainGlobals "MOST_LETTERS_IN_STEPS" = some (some (.int 4000 tk_MOST_LETTERS_IN_STEPS)))
   {tk_MOST_STRANDS : Tok} (g_MOST_STRANDS : PySem.W.nsIn K mainGlobals "MOST_STRANDS" = some (some (.int 6 tk_MOST_STRANDS)))
   {dC : Addr} {e_can : Nat} {t_can1 t_can2 t_can3 : Tok} (n_can : PySem.W.nsIn K mainGlobals "CAN" = some (some (.ref dC))) (l_can : K.lookup dC = some ⟨.type "dict", none, .dict #[⟨PyData.keyHash w.params "far", .str "far" t_can1, .ref f14⟩, ⟨PyData.keyHash w.params "three", .str "three" t_can2, .ref f15⟩, ⟨PyData.keyHash w.params "out", .str "out" t_can3, .ref f16⟩] e_can, #[]⟩) (s_can : (dC == sysModules) = false)
   : ∃ fd : FuncData, (∀ (s : Shared) (v : Value), BindsTo s fd ⟨[v], []⟩ [("script", v)]) ∧ ∀ base : Heap, K.In base → base.Ns mainGlobals mg → FnOk l.prog w K mg base CX0 8 fa fd ["script"] (dSp K sp_law) := by
 have e := hfa.symm.trans (PySem.W.mg_of X G a40)
 cases e
 have Z : Zs mg := ⟨PySem.W.mg_none_of X G z_abs, PySem.W.mg_none_of X G z_all, PySem.W.mg_none_of X G z_enumerate, PySem.W.mg_none_of X G z_int, PySem.W.mg_none_of X G z_len, PySem.W.mg_none_of X G z_max, PySem.W.mg_none_of X G z_min, PySem.W.mg_none_of X G z_range, PySem.W.mg_none_of X G z_sorted, PySem.W.mg_none_of X G z_sum, PySem.W.mg_none_of X G z_tuple, ⟨tk_MOST_LETTERS, PySem.W.mg_of X G g_MOST_LETTERS⟩, ⟨tk_MOST_LETTERS_IN_STEPS, PySem.W.mg_of X G g_MOST_LETTERS_IN_STEPS⟩, ⟨tk_MOST_STRANDS, PySem.W.mg_of X G g_MOST_STRANDS⟩⟩
 have F1 := fun_mk (st := s_is_letter) l1 c1 k1
 have b1 := F1.binds (ps := ["strands", "letter"]) fun _ _ _ _ _ _ us hl => len_2 (P := fun us => bindArgs _ ⟨us, []⟩ = pure (List.zip _ us)) hl (fun _ _ => rfl)
 have F2 := fun_mk (st := s_is_word) l2 c2 k2
 have b2 := F2.binds (ps := ["strands", "word", "most"]) fun _ _ _ _ _ _ us hl => len_3 (P := fun us => bindArgs _ ⟨us, []⟩ = pure (List.zip _ us)) hl (fun _ _ _ => rfl)
 have F3 := fun_mk (st := s_is_plait) l3 c3 k3
 have b3 := F3.binds (ps := ["plait"]) fun _ _ _ _ _ _ us hl => len_1 (P := fun us => bindArgs _ ⟨us, []⟩ = pure (List.zip _ us)) hl (fun _ => rfl)
 have F4 := fun_mk (st := s_looked) l4 c4 k4
 have b4 := F4.binds (ps := ["plait"]) fun _ _ _ _ _ _ us hl => len_1 (P := fun us => bindArgs _ ⟨us, []⟩ = pure (List.zip _ us)) hl (fun _ => rfl)
 have F5 := fun_mk (st := s_looked_both) l5 c5 k5
 have b5 := F5.binds (ps := ["one", "other"]) fun _ _ _ _ _ _ us hl => len_2 (P := fun us => bindArgs _ ⟨us, []⟩ = pure (List.zip _ us)) hl (fun _ _ => rfl)
 have F6 := fun_mk (st := s_exchanged) l6 c6 k6
 have b6 := F6.binds (ps := ["row", "at"]) fun _ _ _ _ _ _ us hl => len_2 (P := fun us => bindArgs _ ⟨us, []⟩ = pure (List.zip _ us)) hl (fun _ _ => rfl)
 have F7 := fun_mk (st := s_places_in) l7 c7 k7
 have b7 := F7.binds (ps := ["order"]) fun _ _ _ _ _ _ us hl => len_1 (P := fun us => bindArgs _ ⟨us, []⟩ = pure (List.zip _ us)) hl (fun _ => rfl)
 have F8 := fun_mk (st := s_behind) l8 c8 k8
 have b8 := F8.binds (ps := ["one", "other"]) fun _ _ _ _ _ _ us hl => len_2 (P := fun us => bindArgs _ ⟨us, []⟩ = pure (List.zip _ us)) hl (fun _ _ => rfl)
 have F9 := fun_mk (st := s_mirrored) l9 c9 k9
 have b9 := F9.binds (ps := ["plait"]) fun _ _ _ _ _ _ us hl => len_1 (P := fun us => bindArgs _ ⟨us, []⟩ = pure (List.zip _ us)) hl (fun _ => rfl)
 have F10 := fun_mk (st := s_flipped_letter) l10 c10 k10
 have b10 := F10.binds (ps := ["strands", "letter"]) fun _ _ _ _ _ _ us hl => len_2 (P := fun us => bindArgs _ ⟨us, []⟩ = pure (List.zip _ us)) hl (fun _ _ => rfl)
 have F11 := fun_mk (st := s_flipped) l11 c11 k11
 have b11 := F11.binds (ps := ["plait"]) fun _ _ _ _ _ _ us hl => len_1 (P := fun us => bindArgs _ ⟨us, []⟩ = pure (List.zip _ us)) hl (fun _ => rfl)
 have F12 := fun_mk (st := s_order_of) l12 c12 k12
 have b12 := F12.binds (ps := ["plait"]) fun _ _ _ _ _ _ us hl => len_1 (P := fun us => bindArgs _ ⟨us, []⟩ = pure (List.zip _ us)) hl (fun _ => rfl)
 have F13 := fun_mk (st := s_looked_word) l13 c13 k13
 have b13 := F13.binds (ps := ["strands", "word"]) fun _ _ _ _ _ _ us hl => len_2 (P := fun us => bindArgs _ ⟨us, []⟩ = pure (List.zip _ us)) hl (fun _ _ => rfl)
 have F14 := fun_mk (st := s_can_far) l14 c14 k14
 have b14 := F14.binds (ps := ["word", "at"]) fun _ _ _ _ _ _ us hl => len_2 (P := fun us => bindArgs _ ⟨us, []⟩ = pure (List.zip _ us)) hl (fun _ _ => rfl)
 have F15 := fun_mk (st := s_can_three) l15 c15 k15
 have b15 := F15.binds (ps := ["word", "at"]) fun _ _ _ _ _ _ us hl => len_2 (P := fun us => bindArgs _ ⟨us, []⟩ = pure (List.zip _ us)) hl (fun _ _ => rfl)
 have F16 := fun_mk (st := s_can_out) l16 c16 k16
 have b16 := F16.binds (ps := ["word", "at"]) fun _ _ _ _ _ _ us hl => len_2 (P := fun us => bindArgs _ ⟨us, []⟩ = pure (List.zip _ us)) hl (fun _ _ => rfl)
 have F17 := fun_mk (st := s_signed) l17 c17 k17
 have b17 := F17.binds (ps := ["number", "letter"]) fun _ _ _ _ _ _ us hl => len_2 (P := fun us => bindArgs _ ⟨us, []⟩ = pure (List.zip _ us)) hl (fun _ _ => rfl)
 have F18 := fun_mk (st := s_with_three) l18 c18 k18
 have b18 := F18.binds (ps := ["word", "at"]) fun _ _ _ _ _ _ us hl => len_2 (P := fun us => bindArgs _ ⟨us, []⟩ = pure (List.zip _ us)) hl (fun _ _ => rfl)
 have F19 := fun_mk (st := s_with_in) l19 c19 k19
 have b19 := F19.binds (ps := ["strands", "word", "at", "letter"]) fun _ _ _ _ _ _ us hl => len_4 (P := fun us => bindArgs _ ⟨us, []⟩ = pure (List.zip _ us)) hl (fun _ _ _ _ => rfl)
 have F20 := fun_mk (st := s_done) l20 c20 k20
 have b20 := F20.binds (ps := ["strands", "word", "step"]) fun _ _ _ _ _ _ us hl => len_3 (P := fun us => bindArgs _ ⟨us, []⟩ = pure (List.zip _ us)) hl (fun _ _ _ => rfl)
 have F21 := fun_mk (st := s_stepped) l21 c21 k21
 have b21 := F21.binds (ps := ["strands", "word", "step"]) fun _ _ _ _ _ _ us hl => len_3 (P := fun us => bindArgs _ ⟨us, []⟩ = pure (List.zip _ us)) hl (fun _ _ _ => rfl)
 have F22 := fun_mk (st := s_piece_from) l22 c22 k22
 have b22 := F22.binds (ps := ["order", "begin"]) fun _ _ _ _ _ _ us hl => len_2 (P := fun us => bindArgs _ ⟨us, []⟩ = pure (List.zip _ us)) hl (fun _ _ => rfl)
 have F23 := fun_mk (st := s_pieces) l23 c23 k23
 have b23 := F23.binds (ps := ["plait"]) fun _ _ _ _ _ _ us hl => len_1 (P := fun us => bindArgs _ ⟨us, []⟩ = pure (List.zip _ us)) hl (fun _ => rfl)
 have F24 := fun_mk (st := s_sign_of) l24 c24 k24
 have b24 := F24.binds (ps := ["letter"]) fun _ _ _ _ _ _ us hl => len_1 (P := fun us => bindArgs _ ⟨us, []⟩ = pure (List.zip _ us)) hl (fun _ => rfl)
 have F25 := fun_mk (st := s_turns) l25 c25 k25
 have b25 := F25.binds (ps := ["plait"]) fun _ _ _ _ _ _ us hl => len_1 (P := fun us => bindArgs _ ⟨us, []⟩ = pure (List.zip _ us)) hl (fun _ => rfl)
 have F26 := fun_mk (st := s_crossings) l26 c26 k26
 have b26 := F26.binds (ps := ["plait"]) fun _ _ _ _ _ _ us hl => len_1 (P := fun us => bindArgs _ ⟨us, []⟩ = pure (List.zip _ us)) hl (fun _ => rfl)
 have F27 := fun_mk (st := s_piece_numbers) l27 c27 k27
 have b27 := F27.binds (ps := ["parts"]) fun _ _ _ _ _ _ us hl => len_1 (P := fun us => bindArgs _ ⟨us, []⟩ = pure (List.zip _ us)) hl (fun _ => rfl)
 have F28 := fun_mk (st := s_windings) l28 c28 k28
 have b28 := F28.binds (ps := ["plait"]) fun _ _ _ _ _ _ us hl => len_1 (P := fun us => bindArgs _ ⟨us, []⟩ = pure (List.zip _ us)) hl (fun _ => rfl)
 have F29 := fun_mk (st := s_with_round) l29 c29 k29
 have b29 := F29.binds (ps := ["plait"]) fun _ _ _ _ _ _ us hl => len_1 (P := fun us => bindArgs _ ⟨us, []⟩ = pure (List.zip _ us)) hl (fun _ => rfl)
 have F30 := fun_mk (st := s_with_back) l30 c30 k30
 have b30 := F30.binds (ps := ["plait"]) fun _ _ _ _ _ _ us hl => len_1 (P := fun us => bindArgs _ ⟨us, []⟩ = pure (List.zip _ us)) hl (fun _ => rfl)
 have F31 := fun_mk (st := s_with_less) l31 c31 k31
 have b31 := F31.binds (ps := ["plait"]) fun _ _ _ _ _ _ us hl => len_1 (P := fun us => bindArgs _ ⟨us, []⟩ = pure (List.zip _ us)) hl (fun _ => rfl)
 have F32 := fun_mk (st := s_with_more) l32 c32 k32
 have b32 := F32.binds (ps := ["plait", "sign"]) fun _ _ _ _ _ _ us hl => len_2 (P := fun us => bindArgs _ ⟨us, []⟩ = pure (List.zip _ us)) hl (fun _ _ => rfl)
 have F33 := fun_mk (st := s_with_step) l33 c33 k33
 have b33 := F33.binds (ps := ["plait", "step"]) fun _ _ _ _ _ _ us hl => len_2 (P := fun us => bindArgs _ ⟨us, []⟩ = pure (List.zip _ us)) hl (fun _ _ => rfl)
 have F34 := fun_mk (st := s_moved) l34 c34 k34
 have b34 := F34.binds (ps := ["plait", "move"]) fun _ _ _ _ _ _ us hl => len_2 (P := fun us => bindArgs _ ⟨us, []⟩ = pure (List.zip _ us)) hl (fun _ _ => rfl)
 have F35 := fun_mk (st := s_moved_all) l35 c35 k35
 have b35 := F35.binds (ps := ["plait", "moves"]) fun _ _ _ _ _ _ us hl => len_2 (P := fun us => bindArgs _ ⟨us, []⟩ = pure (List.zip _ us)) hl (fun _ _ => rfl)
 have F36 := fun_mk (st := s__law_state) l36 c36 k36
 have b36 := F36.binds (ps := ["script", "k"]) fun _ _ _ _ _ _ us hl => len_2 (P := fun us => bindArgs _ ⟨us, []⟩ = pure (List.zip _ us)) hl (fun _ _ => rfl)
 have F37 := fun_mk (st := s__law_take) l37 c37 k37
 have b37 := F37.binds (ps := ["state", "many"]) fun _ _ _ _ _ _ us hl => len_2 (P := fun us => bindArgs _ ⟨us, []⟩ = pure (List.zip _ us)) hl (fun _ _ => rfl)
 have F38 := fun_mk (st := s__law_letter) l38 c38 k38
 have b38 := F38.binds (ps := ["state", "strands"]) fun _ _ _ _ _ _ us hl => len_2 (P := fun us => bindArgs _ ⟨us, []⟩ = pure (List.zip _ us)) hl (fun _ _ => rfl)
 have F39 := fun_mk (st := s__law_plait) l39 c39 k39
 have b39 := F39.binds (ps := ["state", "most", "longest"]) fun _ _ _ _ _ _ us hl => len_3 (P := fun us => bindArgs _ ⟨us, []⟩ = pure (List.zip _ us)) hl (fun _ _ _ => rfl)
 have F40 := fun_mk (st := s_law) l40 c40 k40
 refine ⟨PySem.W.fnOf "law" "law" (defArgs s_law) (defBody s_law) (defScope s_law) .none kV40 dc40 pm40 an40 cd40 ct40, fun s v => .of_eq rfl, fun base _ _ => ?_⟩
 have CN : CanN l.prog w K mg dC f14 f15 f16 := ⟨canK_of [("far", t_can1, f14), ("three", t_can2, f15), ("out", t_can3, f16)] l_can (by show (["far", "three", "out"] : List Str).Nodup; decide) s_can, PySem.W.mg_of X G n_can, PySem.W.mg_of X G a14, PySem.W.mg_of X G a15, PySem.W.mg_of X G a16, fun q hq => by
   simp only [List.mem_cons, List.not_mem_nil, or_false] at hq
   rcases hq with rfl | rfl | rfl
   · exact k14
   · exact k15
   · exact k16
   ⟩
 have D1 := ok_is_letter (P := l.prog) (w := w) (base := base) (n := 0) F1 (PySem.W.mg_of X G a1) b1 Z 
 have D2 := ok_is_word (P := l.prog) (w := w) (base := base) (n := 1) F2 (PySem.W.mg_of X G a2) b2 Z (D1.mono (by decide))
 have D3 := ok_is_plait (P := l.prog) (w := w) (base := base) (n := 2) F3 (PySem.W.mg_of X G a3) b3 Z (D2.mono (by decide))
 have D4 := ok_looked (P := l.prog) (w := w) (base := base) (n := 3) F4 (PySem.W.mg_of X G a4) b4 Z (D3.mono (by decide))
 have D5 := ok_looked_both (P := l.prog) (w := w) (base := base) (n := 4) F5 (PySem.W.mg_of X G a5) b5 Z (D4.mono (by decide))
 have D6 := ok_exchanged (P := l.prog) (w := w) (base := base) (n := 0) F6 (PySem.W.mg_of X G a6) b6 Z 
 have D7 := ok_places_in (P := l.prog) (w := w) (base := base) (n := 0) F7 (PySem.W.mg_of X G a7) b7 Z 
 have D8 := ok_behind (P := l.prog) (w := w) (base := base) (n := 5) F8 (PySem.W.mg_of X G a8) b8 Z (D5.mono (by decide))
 have D9 := ok_mirrored (P := l.prog) (w := w) (base := base) (n := 4) F9 (PySem.W.mg_of X G a9) b9 Z (D4.mono (by decide))
 have D10 := ok_flipped_letter (P := l.prog) (w := w) (base := base) (n := 0) F10 (PySem.W.mg_of X G a10) b10 Z 
 have D11 := ok_flipped (P := l.prog) (w := w) (base := base) (n := 4) F11 (PySem.W.mg_of X G a11) b11 Z (D4.mono (by decide)) (D10.mono (by decide))
 have D12 := ok_order_of (P := l.prog) (w := w) (base := base) (n := 4) F12 (PySem.W.mg_of X G a12) b12 Z (D4.mono (by decide)) (D6.mono (by decide)) (D7.mono (by decide))
 have D13 := ok_looked_word (P := l.prog) (w := w) (base := base) (n := 2) F13 (PySem.W.mg_of X G a13) b13 Z (D2.mono (by decide))
 have D14 := ok_can_far (P := l.prog) (w := w) (base := base) (n := 0) F14 (PySem.W.mg_of X G a14) b14 Z 
 have D15 := ok_can_three (P := l.prog) (w := w) (base := base) (n := 0) F15 (PySem.W.mg_of X G a15) b15 Z 
 have D16 := ok_can_out (P := l.prog) (w := w) (base := base) (n := 0) F16 (PySem.W.mg_of X G a16) b16 Z 
 have D17 := ok_signed (P := l.prog) (w := w) (base := base) (n := 0) F17 (PySem.W.mg_of X G a17) b17 Z 
 have D18 := ok_with_three (P := l.prog) (w := w) (base := base) (n := 1) F18 (PySem.W.mg_of X G a18) b18 Z (D17.mono (by decide))
 have D19 := ok_with_in (P := l.prog) (w := w) (base := base) (n := 1) F19 (PySem.W.mg_of X G a19) b19 Z (D1.mono (by decide))
 have D20 := ok_done (P := l.prog) (w := w) (base := base) (n := 2) F20 (PySem.W.mg_of X G a20) b20 Z CN (D19.mono (by decide)) (D14.mono (by decide)) (D15.mono (by decide)) (D16.mono (by decide)) (D6.mono (by decide)) (D18.mono (by decide))
 have D21 := ok_stepped (P := l.prog) (w := w) (base := base) (n := 3) F21 (PySem.W.mg_of X G a21) b21 Z (D13.mono (by decide)) (D20.mono (by decide))
 have D22 := ok_piece_from (P := l.prog) (w := w) (base := base) (n := 0) F22 (PySem.W.mg_of X G a22) b22 Z 
 have D23 := ok_pieces (P := l.prog) (w := w) (base := base) (n := 5) F23 (PySem.W.mg_of X G a23) b23 Z (D12.mono (by decide)) (D22.mono (by decide))
 have D24 := ok_sign_of (P := l.prog) (w := w) (base := base) (n := 0) F24 (PySem.W.mg_of X G a24) b24 Z 
 have D25 := ok_turns (P := l.prog) (w := w) (base := base) (n := 4) F25 (PySem.W.mg_of X G a25) b25 Z (D4.mono (by decide)) (D24.mono (by decide))
 have D26 := ok_crossings (P := l.prog) (w := w) (base := base) (n := 1) F26 (PySem.W.mg_of X G a26) b26 Z (D24.mono (by decide)) (D6.mono (by decide))
 have D27 := ok_piece_numbers (P := l.prog) (w := w) (base := base) (n := 0) F27 (PySem.W.mg_of X G a27) b27 Z 
 have D28 := ok_windings (P := l.prog) (w := w) (base := base) (n := 6) F28 (PySem.W.mg_of X G a28) b28 Z (D23.mono (by decide)) (D27.mono (by decide)) (D26.mono (by decide))
 have D29 := ok_with_round (P := l.prog) (w := w) (base := base) (n := 0) F29 (PySem.W.mg_of X G a29) b29 Z 
 have D30 := ok_with_back (P := l.prog) (w := w) (base := base) (n := 0) F30 (PySem.W.mg_of X G a30) b30 Z 
 have D31 := ok_with_less (P := l.prog) (w := w) (base := base) (n := 0) F31 (PySem.W.mg_of X G a31) b31 Z 
 have D32 := ok_with_more (P := l.prog) (w := w) (base := base) (n := 0) F32 (PySem.W.mg_of X G a32) b32 Z 
 have D33 := ok_with_step (P := l.prog) (w := w) (base := base) (n := 4) F33 (PySem.W.mg_of X G a33) b33 Z (D21.mono (by decide))
 have D34 := ok_moved (P := l.prog) (w := w) (base := base) (n := 5) F34 (PySem.W.mg_of X G a34) b34 Z (D4.mono (by decide)) (D32.mono (by decide)) (D33.mono (by decide)) (D29.mono (by decide)) (D30.mono (by decide)) (D31.mono (by decide)) (D11.mono (by decide))
 have D35 := ok_moved_all (P := l.prog) (w := w) (base := base) (n := 6) F35 (PySem.W.mg_of X G a35) b35 Z (D4.mono (by decide)) (D34.mono (by decide))
 have D36 := ok__law_state (P := l.prog) (w := w) (base := base) (n := 0) F36 (PySem.W.mg_of X G a36) b36 Z 
 have D37 := ok__law_take (P := l.prog) (w := w) (base := base) (n := 0) F37 (PySem.W.mg_of X G a37) b37 Z 
 have D38 := ok__law_letter (P := l.prog) (w := w) (base := base) (n := 1) F38 (PySem.W.mg_of X G a38) b38 Z (D37.mono (by decide))
 have D39 := ok__law_plait (P := l.prog) (w := w) (base := base) (n := 2) F39 (PySem.W.mg_of X G a39) b39 Z (D37.mono (by decide)) (D38.mono (by decide))
 exact ok_law (n := 7) F40 Z (D36.mono (by decide)) (D39.mono (by decide)) (D37.mono (by decide)) (D38.mono (by decide)) (D8.mono (by decide)) (D35.mono (by decide)) (D23.mono (by decide)) (D25.mono (by decide)) (D9.mono (by decide)) (D28.mono (by decide))
end L2
namespace PySem.W.Fast
theorem tw17639970864649565954:True:=⟨⟩
theorem tw12448341038865143880:True:=⟨⟩
theorem tw11944587667054887657:True:=⟨⟩
theorem tw11010627317867765073:True:=⟨⟩
theorem tw15800588004468539741:True:=⟨⟩
theorem tw5775383421719741020:True:=⟨⟩
theorem tw9133752793668292406:True:=⟨⟩
theorem tw16338771238920821317:True:=⟨⟩
theorem tw13885066610449182626:True:=⟨⟩
theorem tw16173553621720866723:True:=⟨⟩
theorem tw617579751811424242:True:=⟨⟩
theorem tw13373867965081441047:True:=⟨⟩
theorem tw10583334664696643655:True:=⟨⟩
theorem tw17189929728514828252:True:=⟨⟩
theorem tw8838756570380381255:True:=⟨⟩
theorem tw1337678844065390302:True:=⟨⟩
theorem tw14739158368092266545:True:=⟨⟩
theorem tw1664526391742699816:True:=⟨⟩
theorem tw1442550824088681150:True:=⟨⟩
theorem tw18050031194031150139:True:=⟨⟩
theorem tw759223458708010981:True:=⟨⟩
theorem tw16321150448159183472:True:=⟨⟩
theorem tw15466744274336109464:True:=⟨⟩
theorem tw11389859859253078755:True:=⟨⟩
theorem tw18247203626000823824:True:=⟨⟩
theorem tw675934258229953019:True:=⟨⟩
theorem tw16805088151220832646:True:=⟨⟩
theorem tw16121214486689534518:True:=⟨⟩
theorem tw687066448496092641:True:=⟨⟩
theorem tw10358598972195656384:True:=⟨⟩
theorem tw549164452985419114:True:=⟨⟩
theorem tw5551297485635130396:True:=⟨⟩
theorem tw18393060429312224397:True:=⟨⟩
theorem tw17126011953020981261:True:=⟨⟩
theorem tw13375548849153763540:True:=⟨⟩
theorem tw10414226828839884386:True:=⟨⟩
theorem tw4952298352645939684:True:=⟨⟩
theorem tw3188411350730059334:True:=⟨⟩
theorem tw5426295619597743678:True:=⟨⟩
theorem tw5587620710082618105:True:=⟨⟩
theorem tw7203173580666940093:True:=⟨⟩
theorem tw4353419280547404291:True:=⟨⟩
theorem tw3565987749005115060:True:=⟨⟩
theorem tw1433644412187463535:True:=⟨⟩
theorem tw7999581618769459464:True:=⟨⟩
theorem tw15788668486361341398:True:=⟨⟩
theorem tw1585043350311586724:True:=⟨⟩
theorem tw15821590839653109543:True:=⟨⟩
theorem tw1752872842682287956:True:=⟨⟩
theorem tw1369373728451121489:True:=⟨⟩
theorem tw7998600484894101152:True:=⟨⟩
theorem tw9267871042106304844:True:=⟨⟩
theorem tw14269422716979156189:True:=⟨⟩
theorem tw2108202147491209896:True:=⟨⟩
theorem tw1042815389427932880:True:=⟨⟩
theorem tw8803631770388664309:True:=⟨⟩
theorem tw15046650471166090678:True:=⟨⟩
theorem tw4066466851523368333:True:=⟨⟩
theorem tw13058602627599533451:True:=⟨⟩
theorem tw6366544498967977681:True:=⟨⟩
theorem tw18191814748308566658:True:=⟨⟩
theorem tw14389927519100242419:True:=⟨⟩
theorem tw13872535080344337632:True:=⟨⟩
theorem tw15201661600441004859:True:=⟨⟩
theorem tw18410561594892628776:True:=⟨⟩
theorem tw364491667983623237:True:=⟨⟩
theorem tw2638471521964691662:True:=⟨⟩
theorem tw2299066851282057236:True:=⟨⟩
theorem tw6043935790054499093:True:=⟨⟩
theorem tw7992361792778897862:True:=⟨⟩
theorem tw11203434563965461856:True:=⟨⟩
theorem tw17033671541954698001:True:=⟨⟩
theorem tw3183535820721896657:True:=⟨⟩
theorem tw8875893283516306406:True:=⟨⟩
theorem tw16505518724072078199:True:=⟨⟩
theorem tw2882140018021241156:True:=⟨⟩
theorem tw2820302037642969344:True:=⟨⟩
theorem tw10564027729046509332:True:=⟨⟩
theorem tw8018360973110845905:True:=⟨⟩
theorem tw5113150605980017423:True:=⟨⟩
theorem tw12264264970782674430:True:=⟨⟩
theorem tw4475367847493069044:True:=⟨⟩
theorem tw10690384678014577567:True:=⟨⟩
theorem tw6444003444638627037:True:=⟨⟩
theorem tw924207960280377786:True:=⟨⟩
theorem tw12987866166008290172:True:=⟨⟩
theorem tw10595597195068438617:True:=⟨⟩
theorem tw5289371344268813113:True:=⟨⟩
theorem tw11823570863995700101:True:=⟨⟩
theorem tw17551314214723720242:True:=⟨⟩
theorem tw14693560286247744204:True:=⟨⟩
theorem tw758797066867207806:True:=⟨⟩
theorem tw8481543312193639313:True:=⟨⟩
theorem tw18427282066414933350:True:=⟨⟩
theorem tw16233337433655031761:True:=⟨⟩
theorem tw4194651208913151864:True:=⟨⟩
theorem tw12575808997487355491:True:=⟨⟩
theorem tw3179812846474859321:True:=⟨⟩
theorem tw1382084852107608439:True:=⟨⟩
theorem tw12918546671961570459:True:=⟨⟩
theorem tw7016929323480166603:True:=⟨⟩
theorem tw10546318539745951173:True:=⟨⟩
theorem tw9344629245232718427:True:=⟨⟩
theorem tw18195069377265937568:True:=⟨⟩
theorem tw3755195569967068756:True:=⟨⟩
theorem tw3788436100790962240:True:=⟨⟩
theorem tw9603851100950350484:True:=⟨⟩
theorem tw17464593170836683455:True:=⟨⟩
theorem tw7315164237536207234:True:=⟨⟩
theorem tw12282564992954822882:True:=⟨⟩
theorem tw2718060431102066053:True:=⟨⟩
theorem tw12465003496776313653:True:=⟨⟩
theorem tw2691051388060285501:True:=⟨⟩
theorem tw14454257208540029450:True:=⟨⟩
theorem tw7612834547651022761:True:=⟨⟩
theorem tw2678386703214414859:True:=⟨⟩
theorem tw959804385182290085:True:=⟨⟩
theorem tw15038008503781825044:True:=⟨⟩
theorem tw10677084754139536018:True:=⟨⟩
theorem tw10271342593577496693:True:=⟨⟩
theorem tw2860441068855042328:True:=⟨⟩
theorem tw2413304925070069549:True:=⟨⟩
theorem tw7881457923142951503:True:=⟨⟩
theorem tw13535956636094932427:True:=⟨⟩
theorem tw11778904088313157775:True:=⟨⟩
theorem tw16707178503297641057:True:=⟨⟩
theorem tw18152918626196624173:True:=⟨⟩
theorem tw12672318394756459747:True:=⟨⟩
theorem tw2230382344296569606:True:=⟨⟩
theorem tw4739381925512419851:True:=⟨⟩
theorem tw17401813671335452430:True:=⟨⟩
theorem tw8013169249437142261:True:=⟨⟩
theorem tw1878464762261064659:True:=⟨⟩
theorem tw15675450269657435261:True:=⟨⟩
theorem tw6251088076272738747:True:=⟨⟩
theorem tw17428829475237884141:True:=⟨⟩
theorem tw5740111729578938508:True:=⟨⟩
theorem tw10084506876478106214:True:=⟨⟩
theorem tw17446774026346347395:True:=⟨⟩
theorem tw15101939907038801568:True:=⟨⟩
theorem tw371306563001529675:True:=⟨⟩
theorem tw18098310309999246571:True:=⟨⟩
theorem tw2496426327205646296:True:=⟨⟩
theorem tw2044944065598663564:True:=⟨⟩
theorem tw16075431669295640428:True:=⟨⟩
theorem tw3233209023620971939:True:=⟨⟩
theorem tw16931678968939967639:True:=⟨⟩
theorem tw11976203680367531588:True:=⟨⟩
theorem tw2970377584294201483:True:=⟨⟩
theorem tw16822657676360520316:True:=⟨⟩
theorem tw116239707609679647:True:=⟨⟩
theorem tw16409799118241043048:True:=⟨⟩
theorem tw11465565607162197746:True:=⟨⟩
theorem tw12478358435353150744:True:=⟨⟩
theorem tw1839149596456892121:True:=⟨⟩
theorem tw423909021774802138:True:=⟨⟩
theorem tw2277638266858262293:True:=⟨⟩
theorem tw7334420510019250011:True:=⟨⟩
theorem tw9788848590565524328:True:=⟨⟩
theorem tw15363808472360036120:True:=⟨⟩
theorem tw759414434518402675:True:=⟨⟩
theorem tw16513372193267607606:True:=⟨⟩
theorem tw11347632452265171155:True:=⟨⟩
theorem tw8062229959555681877:True:=⟨⟩
theorem tw16860476733006473486:True:=⟨⟩
theorem tw7185518582006321598:True:=⟨⟩
theorem tw3011203027438821188:True:=⟨⟩
theorem tw17205112373843629161:True:=⟨⟩
theorem tw9463504993644174031:True:=⟨⟩
theorem tw17695560342561312636:True:=⟨⟩
theorem tw12313954379049208667:True:=⟨⟩
theorem tw7059418520157493266:True:=⟨⟩
theorem tw3820289549091097348:True:=⟨⟩
theorem tw13948048671635732431:True:=⟨⟩
theorem tw3744317024113802780:True:=⟨⟩
theorem tw1308755097062386792:True:=⟨⟩
theorem tw185369878718741788:True:=⟨⟩
theorem tw18390872192259741795:True:=⟨⟩
theorem tw6426909002476003886:True:=⟨⟩
theorem tw6674247104750583153:True:=⟨⟩
theorem tw8505127586300074612:True:=⟨⟩
theorem tw9359400018487914128:True:=⟨⟩
theorem tw1218893696263085542:True:=⟨⟩
theorem tw8495855399901535838:True:=⟨⟩
theorem tw14916745629724380189:True:=⟨⟩
theorem tw7819592014477672925:True:=⟨⟩
theorem tw11949303825490858845:True:=⟨⟩
theorem tw11596440511472434717:True:=⟨⟩
theorem tw8100502395663001297:True:=⟨⟩
theorem tw8361316479772740820:True:=⟨⟩
theorem tw7445491137203649036:True:=⟨⟩
theorem tw5980598164460055078:True:=⟨⟩
theorem tw2711623938938703289:True:=⟨⟩
theorem tw12220691845787518823:True:=⟨⟩
theorem tw10977749105649360332:True:=⟨⟩
theorem tw17848891088701115621:True:=⟨⟩
theorem tw15286165319578821884:True:=⟨⟩
theorem tw7586654831536558712:True:=⟨⟩
theorem tw16665271661501324756:True:=⟨⟩
theorem tw8266516891908065318:True:=⟨⟩
theorem tw5460944326359845212:True:=⟨⟩
theorem tw10447919769777083756:True:=⟨⟩
theorem tw13634430785725538146:True:=⟨⟩
theorem tw2379875623264341278:True:=⟨⟩
theorem tw12305033084491504808:True:=⟨⟩
theorem tw14812149562997304175:True:=⟨⟩
theorem tw18341262909691353809:True:=⟨⟩
theorem tw14199315453731930378:True:=⟨⟩
theorem tw5819622211831994564:True:=⟨⟩
theorem tw16176780224397185615:True:=⟨⟩
theorem tw1542392598179134879:True:=⟨⟩
theorem tw1585094977365397596:True:=⟨⟩
theorem tw17001420908350819266:True:=⟨⟩
theorem tw14544897110748146991:True:=⟨⟩
theorem tw7303462655343667310:True:=⟨⟩
theorem tw6144263370613024692:True:=⟨⟩
theorem tw18327202465598373580:True:=⟨⟩
theorem tw3560094560038088474:True:=⟨⟩
theorem tw9215325202028402502:True:=⟨⟩
theorem tw14790505834002065127:True:=⟨⟩
theorem tw16708270849102554647:True:=⟨⟩
theorem tw9083118332838223695:True:=⟨⟩
theorem tw819462388601793239:True:=⟨⟩
theorem tw2346716779502383830:True:=⟨⟩
theorem tw9500020419334348143:True:=⟨⟩
theorem tw13297700036921774618:True:=⟨⟩
theorem tw6971840190599714084:True:=⟨⟩
theorem tw16298789486342811095:True:=⟨⟩
theorem tw11926669473140826558:True:=⟨⟩
theorem tw1023811600281757958:True:=⟨⟩
theorem tw4864180779617288598:True:=⟨⟩
theorem tw6249350589918060834:True:=⟨⟩
theorem tw9976828459599535852:True:=⟨⟩
theorem tw8739950000269262421:True:=⟨⟩
theorem tw2901916716401346686:True:=⟨⟩
theorem tw11379436789115175178:True:=⟨⟩
theorem tw7235948159959261732:True:=⟨⟩
theorem tw3717604720325920249:True:=⟨⟩
theorem tw16968754871147734123:True:=⟨⟩
theorem tw830143752595488695:True:=⟨⟩
theorem tw6420057770874388157:True:=⟨⟩
theorem tw4122881713304995104:True:=⟨⟩
theorem tw2937527438690464196:True:=⟨⟩
theorem tw6146327958191672255:True:=⟨⟩
theorem tw9332770453977570785:True:=⟨⟩
theorem tw6552569657728316226:True:=⟨⟩
theorem tw15309973521038437255:True:=⟨⟩
theorem tw5755037728818794692:True:=⟨⟩
theorem tw9200888468300618552:True:=⟨⟩
theorem tw13571386663542204262:True:=⟨⟩
theorem tw2947711630171468575:True:=⟨⟩
theorem tw12179963534958319389:True:=⟨⟩
theorem tw3804261788005427226:True:=⟨⟩
theorem tw9122788327945190261:True:=⟨⟩
theorem tw2212650356909673350:True:=⟨⟩
theorem tw9786760919612223863:True:=⟨⟩
theorem tw10777539086155457519:True:=⟨⟩
theorem tw10341374118935871856:True:=⟨⟩
theorem tw4390089546866230845:True:=⟨⟩
theorem tw10636681056536842940:True:=⟨⟩
theorem tw13009274918771765229:True:=⟨⟩
theorem tw18192309736742128789:True:=⟨⟩
theorem tw7562652717144653902:True:=⟨⟩
theorem tw1660676501396111403:True:=⟨⟩
theorem tw2678379799215059272:True:=⟨⟩
theorem tw11998566852473410593:True:=⟨⟩
theorem tw8818060552616475583:True:=⟨⟩
theorem tw3951692644035224316:True:=⟨⟩
theorem tw11486200959394221617:True:=⟨⟩
theorem tw14894008006109858842:True:=⟨⟩
theorem tw12139015282554276227:True:=⟨⟩
theorem tw8705439800249642471:True:=⟨⟩
theorem tw7094960835071758833:True:=⟨⟩
theorem tw1659713641625557867:True:=⟨⟩
theorem tw4163686548339839642:True:=⟨⟩
theorem tw7665372717302035162:True:=⟨⟩
theorem tw8136140295880964357:True:=⟨⟩
theorem tw7958022785315542984:True:=⟨⟩
theorem tw4149745572846704347:True:=⟨⟩
theorem tw249085056825656451:True:=⟨⟩
theorem tw8320234066865011959:True:=⟨⟩
theorem tw13750147152990213731:True:=⟨⟩
theorem tw13944800644399695556:True:=⟨⟩
theorem tw5369091683804745676:True:=⟨⟩
theorem tw16824746921739412052:True:=⟨⟩
theorem tw1927946229249839003:True:=⟨⟩
theorem tw9149351268958088922:True:=⟨⟩
theorem tw16974064245466268235:True:=⟨⟩
theorem tw13858794035450658653:True:=⟨⟩
theorem tw1384211041140057157:True:=⟨⟩
theorem tw11706192950243263266:True:=⟨⟩
theorem tw11729898576657937725:True:=⟨⟩
theorem tw11514611987370298257:True:=⟨⟩
theorem tw3220534468924476885:True:=⟨⟩
theorem tw9711384704920784604:True:=⟨⟩
theorem tw13467556055578569675:True:=⟨⟩
theorem tw11256931310797015801:True:=⟨⟩
theorem tw16512387821249913666:True:=⟨⟩
theorem tw18433086010681330372:True:=⟨⟩
theorem tw6300672285086995101:True:=⟨⟩
theorem tw4226066703990063039:True:=⟨⟩
theorem tw7369966676778688395:True:=⟨⟩
theorem tw11010627151981311957:True:=⟨⟩
theorem tw909768029922784797:True:=⟨⟩
theorem tw3415243841636567379:True:=⟨⟩
theorem tw3848286636468558698:True:=⟨⟩
theorem tw901552902779837028:True:=⟨⟩
theorem tw15243986029873738315:True:=⟨⟩
theorem tw3088424651743411752:True:=⟨⟩
theorem tw8800021223916202742:True:=⟨⟩
theorem tw18291863797851419928:True:=⟨⟩
theorem tw4378609349894643630:True:=⟨⟩
theorem tw4452029766635791397:True:=⟨⟩
theorem tw661739987444939934:True:=⟨⟩
theorem tw8760255552211032364:True:=⟨⟩
theorem tw8455198779868849062:True:=⟨⟩
theorem tw3579921239629019211:True:=⟨⟩
theorem tw493906952618082396:True:=⟨⟩
theorem tw1937323734248487284:True:=⟨⟩
theorem tw16519644276444783087:True:=⟨⟩
theorem tw1817276452937704253:True:=⟨⟩
theorem tw11666979007957626616:True:=⟨⟩
theorem tw8381148878625215005:True:=⟨⟩
theorem tw8246355885470960080:True:=⟨⟩
theorem tw14564068932680159064:True:=⟨⟩
theorem tw8008279409577223659:True:=⟨⟩
theorem tw16840768948312584350:True:=⟨⟩
theorem tw15533749661672719409:True:=⟨⟩
theorem tw10239844515800203347:True:=⟨⟩
theorem tw16156344491084599051:True:=⟨⟩
theorem tw17844613384224319791:True:=⟨⟩
theorem tw13307201644602553920:True:=⟨⟩
theorem tw17268684983395329119:True:=⟨⟩
theorem tw876741761941719784:True:=⟨⟩
theorem tw15988345349507850541:True:=⟨⟩
theorem tw15586370933181054292:True:=⟨⟩
theorem tw16632643185066558738:True:=⟨⟩
theorem tw7383093384634293233:True:=⟨⟩
theorem tw17456248236021259402:True:=⟨⟩
theorem tw13770204443743991937:True:=⟨⟩
theorem tw7423059577681235833:True:=⟨⟩
theorem tw18343692179675237693:True:=⟨⟩
theorem tw18402921180221977313:True:=⟨⟩
theorem tw5545555410142467640:True:=⟨⟩
theorem tw13215738189390833393:True:=⟨⟩
theorem tw988837311657349695:True:=⟨⟩
theorem tw8530234003669591316:True:=⟨⟩
theorem tw15192556901004728152:True:=⟨⟩
theorem tw4512020268933538832:True:=⟨⟩
theorem tw13374582150655497702:True:=⟨⟩
theorem tw11621054516934875981:True:=⟨⟩
theorem tw547659181289237988:True:=⟨⟩
theorem tw16830274803808948218:True:=⟨⟩
theorem tw8085365537851646168:True:=⟨⟩
end PySem.W.Fast
open PySem PySem.W PyProof.Rows
set_option maxRecDepth 100000 in
set_option maxHeartbeats 0 in
theorem PySem.Challenge.cw_loopwright_k52_whole_one_behind_the_othe_holds : PySem.Challenge.rw_loopwright_k52_whole_one_behind_the_othe.Holds := by
 w_on; o_law; k_head; (case hw => w_witness2)
 k_fill
 refine L2.law_walk (l := PySem.Challenge.rw_loopwright_k52_whole_one_behind_the_othe) (k := 8) (sp := L2.sp_law) rfl rfl ⟨rfl, by decide, by decide⟩ (fun w h Y => PySem.W.kIn_of Y) L2.law_starts ?F
 case F =>
   intro w mg fa h KX G hmg
   refine' L2.all_mk KX G hmg ?a1 ?l1 ?c1 ?k1 ?a2 ?l2 ?c2 ?k2 ?a3 ?l3 ?c3 ?k3 ?a4 ?l4 ?c4 ?k4 ?a5 ?l5 ?c5 ?k5 ?a6 ?l6 ?c6 ?k6 ?a7 ?l7 ?c7 ?k7 ?a8 ?l8 ?c8 ?k8 ?a9 ?l9 ?c9 ?k9 ?a10 ?l10 ?c10 ?k10 ?a11 ?l11 ?c11 ?k11 ?a12 ?l12 ?c12 ?k12 ?a13 ?l13 ?c13 ?k13 ?a14 ?l14 ?c14 ?k14 ?a15 ?l15 ?c15 ?k15 ?a16 ?l16 ?c16 ?k16 ?a17 ?l17 ?c17 ?k17 ?a18 ?l18 ?c18 ?k18 ?a19 ?l19 ?c19 ?k19 ?a20 ?l20 ?c20 ?k20 ?a21 ?l21 ?c21 ?k21 ?a22 ?l22 ?c22 ?k22 ?a23 ?l23 ?c23 ?k23 ?a24 ?l24 ?c24 ?k24 ?a25 ?l25 ?c25 ?k25 ?a26 ?l26 ?c26 ?k26 ?a27 ?l27 ?c27 ?k27 ?a28 ?l28 ?c28 ?k28 ?a29 ?l29 ?c29 ?k29 ?a30 ?l30 ?c30 ?k30 ?a31 ?l31 ?c31 ?k31 ?a32 ?l32 ?c32 ?k32 ?a33 ?l33 ?c33 ?k33 ?a34 ?l34 ?c34 ?k34 ?a35 ?l35 ?c35 ?k35 ?a36 ?l36 ?c36 ?k36 ?a37 ?l37 ?c37 ?k37 ?a38 ?l38 ?c38 ?k38 ?a39 ?l39 ?c39 ?k39 ?a40 ?l40 ?c40 ?k40 ?z_abs ?z_all ?z_enumerate ?z_int ?z_len ?z_max ?z_min ?z_range ?z_sorted ?z_sum ?z_tuple ?g_MOST_LETTERS ?g_MOST_LETTERS_IN_STEPS ?g_MOST_STRANDS ?n_can ?l_can ?s_can
   (case a1 => k_is)
   (case l1 => k_is)
   (case c1 => k_is)
   (case k1 => k_is)
   (case a2 => k_is)
   (case l2 => k_is)
   (case c2 => k_is)
   (case k2 => k_is)
   (case a3 => k_is)
   (case l3 => k_is)
   (case c3 => k_is)
   (case k3 => k_is)
   (case a4 => k_is)
   (case l4 => k_is)
   (case c4 => k_is)
   (case k4 => k_is)
   (case a5 => k_is)
   (case l5 => k_is)
   (case c5 => k_is)
   (case k5 => k_is)
   (case a6 => k_is)
   (case l6 => k_is)
   (case c6 => k_is)
   (case k6 => k_is)
   (case a7 => k_is)
   (case l7 => k_is)
   (case c7 => k_is)
   (case k7 => k_is)
   (case a8 => k_is)
   (case l8 => k_is)
   (case c8 => k_is)
   (case k8 => k_is)
   (case a9 => k_is)
   (case l9 => k_is)
   (case c9 => k_is)
   (case k9 => k_is)
   (case a10 => k_is)
   (case l10 => k_is)
   (case c10 => k_is)
   (case k10 => k_is)
   (case a11 => k_is)
   (case l11 => k_is)
   (case c11 => k_is)
   (case k11 => k_is)
   (case a12 => k_is)
   (case l12 => k_is)
   (case c12 => k_is)
   (case k12 => k_is)
   (case a13 => k_is)
   (case l13 => k_is)
   (case c13 => k_is)
   (case k13 => k_is)
   (case a14 => k_is)
   (case l14 => k_is)
   (case c14 => k_is)
   (case k14 => k_is)
   (case a15 => k_is)
   (case l15 => k_is)
   (case c15 => k_is)
   (case k15 => k_is)
   (case a16 => k_is)
   (case l16 => k_is)
   (case c16 => k_is)
   (case k16 => k_is)
   (case a17 => k_is)
   (case l17 => k_is)
   (case c17 => k_is)
   (case k17 => k_is)
   (case a18 => k_is)
   (case l18 => k_is)
   (case c18 => k_is)
   (case k18 => k_is)
   (case a19 => k_is)
   (case l19 => k_is)
   (case c19 => k_is)
   (case k19 => k_is)
   (case a20 => k_is)
   (case l20 => k_is)
   (case c20 => k_is)
   (case k20 => k_is)
   (case a21 => k_is)
   (case l21 => k_is)
   (case c21 => k_is)
   (case k21 => k_is)
   (case a22 => k_is)
   (case l22 => k_is)
   (case c22 => k_is)
   (case k22 => k_is)
   (case a23 => k_is)
   (case l23 => k_is)
   (case c23 => k_is)
   (case k23 => k_is)
   (case a24 => k_is)
   (case l24 => k_is)
   (case c24 => k_is)
   (case k24 => k_is)
   (case a25 => k_is)
   (case l25 => k_is)
   (case c25 => k_is)
   (case k25 => k_is)
   (case a26 => k_is)
   (case l26 => k_is)
   (case c26 => k_is)
   (case k26 => k_is)
   (case a27 => k_is)
   (case l27 => k_is)
   (case c27 => k_is)
   (case k27 => k_is)
   (case a28 => k_is)
   (case l28 => k_is)
   (case c28 => k_is)
   (case k28 => k_is)
   (case a29 => k_is)
   (case l29 => k_is)
   (case c29 => k_is)
   (case k29 => k_is)
   (case a30 => k_is)
   (case l30 => k_is)
   (case c30 => k_is)
   (case k30 => k_is)
   (case a31 => k_is)
   (case l31 => k_is)
   (case c31 => k_is)
   (case k31 => k_is)
   (case a32 => k_is)
   (case l32 => k_is)
   (case c32 => k_is)
   (case k32 => k_is)
   (case a33 => k_is)
   (case l33 => k_is)
   (case c33 => k_is)
   (case k33 => k_is)
   (case a34 => k_is)
   (case l34 => k_is)
   (case c34 => k_is)
   (case k34 => k_is)
   (case a35 => k_is)
   (case l35 => k_is)
   (case c35 => k_is)
   (case k35 => k_is)
   (case a36 => k_is)
   (case l36 => k_is)
   (case c36 => k_is)
   (case k36 => k_is)
   (case a37 => k_is)
   (case l37 => k_is)
   (case c37 => k_is)
   (case k37 => k_is)
   (case a38 => k_is)
   (case l38 => k_is)
   (case c38 => k_is)
   (case k38 => k_is)
   (case a39 => k_is)
   (case l39 => k_is)
   (case c39 => k_is)
   (case k39 => k_is)
   (case a40 => k_is)
   (case l40 => k_is)
   (case c40 => k_is)
   (case k40 => k_is)
   (case z_abs => k_is)
   (case z_all => k_is)
   (case z_enumerate => k_is)
   (case z_int => k_is)
   (case z_len => k_is)
   (case z_max => k_is)
   (case z_min => k_is)
   (case z_range => k_is)
   (case z_sorted => k_is)
   (case z_sum => k_is)
   (case z_tuple => k_is)
   (case g_MOST_LETTERS => k_is)
   (case g_MOST_LETTERS_IN_STEPS => k_is)
   (case g_MOST_STRANDS => k_is)
   (case n_can => k_is)
   (case l_can => k_is)
   (case s_can => kernel_rfl)
