import PyProof.Rows.All
import Wide.All
import OpenK.AllK
import Wide.FinOn
import Lean
import PyProof.EqAt
import PyProof.EqKinds
import PyProof.TupleCall
import PySem.Challenge.RW_loopwright_k31_forms_refused
set_option Elab.async false
set_option linter.all false
set_option maxRecDepth 100000
namespace L2
open PySem PySem.Spec PyProof.Rows
noncomputable abbrev Key := Sum Int Str
noncomputable def keyIs : Key → Value → Bool
 | .inl k, v => Value.isInt k v
 | .inr x, v => Value.isStrOf x v
noncomputable def keyH (w : World) : Key → Int
 | .inl k => hashInt k
 | .inr x => hashStr w x
theorem keyIs_shape : ∀ {k : Key} {v : Value}, keyIs k v = true → (∃ i t, k = Sum.inl i ∧ v = Value.int i t) ∨ (∃ x t, k = Sum.inr x ∧ v = Value.str x t)
 | .inl i, v, h => by
   obtain ⟨t, e⟩ := Value.isInt_shape (k := i) (v := v) h
   exact .inl ⟨i, t, rfl, e⟩
 | .inr x, v, h => by
   obtain ⟨t, e⟩ := Value.isStrOf_shape (x := x) (v := v) h
   exact .inr ⟨x, t, rfl, e⟩
theorem key_ll (a b : Int) : decide ((Sum.inl a : Key) = Sum.inl b) = (a == b) := by
 by_cases e : a = b
 · subst e; simp
 · have h : ¬ (Sum.inl a : Key) = Sum.inl b := fun q => e (Sum.inl.inj q)
   rw [decide_eq_false h]
   exact (beq_eq_false_iff_ne.mpr e).symm
theorem key_rr (a b : Str) : decide ((Sum.inr a : Key) = Sum.inr b) = decide (a = b) := by
 by_cases e : a = b
 · subst e; simp
 · have h : ¬ (Sum.inr a : Key) = Sum.inr b := fun q => e (Sum.inr.inj q)
   rw [decide_eq_false h, decide_eq_false e]
theorem key_lr (a : Int) (b : Str) : decide ((Sum.inl a : Key) = Sum.inr b) = false := decide_eq_false (fun q => nomatch q)
theorem key_rl (a : Str) (b : Int) : decide ((Sum.inr a : Key) = Sum.inl b) = false := decide_eq_false (fun q => nomatch q)
noncomputable def mixKind (prog : Program) (w : World) : PySem.KeyKind prog w Key where
 is := keyIs
 hash := keyH w
 inj := fun v a b ha hb => by
   rcases keyIs_shape ha with ⟨i, t, rfl, rfl⟩ | ⟨x, t, rfl, rfl⟩
   · rcases keyIs_shape hb with ⟨j, u, rfl, e⟩ | ⟨y, u, rfl, e⟩
     · injection e with e1 _; rw [e1]
     · exact nomatch e
   · rcases keyIs_shape hb with ⟨j, u, rfl, e⟩ | ⟨y, u, rfl, e⟩
     · exact nomatch e
     · injection e with e1 _; rw [e1]
 byValue := fun k v h => by
   rcases keyIs_shape h with ⟨i, t, rfl, rfl⟩ | ⟨x, t, rfl, rfl⟩ <;> rfl
 pyHash := fun hv h => by
   rcases keyIs_shape hv with ⟨i, t, rfl, rfl⟩ | ⟨x, t, rfl, rfl⟩
   · exact wpAny_pyHash_int h
   · exact wpAny_pyHash_str h
 eqBool := fun hu hv h => by
   rcases keyIs_shape hu with ⟨i, t, rfl, rfl⟩ | ⟨x, t, rfl, rfl⟩
   · rcases keyIs_shape hv with ⟨j, u, rfl, rfl⟩ | ⟨y, u, rfl, rfl⟩
     · rw [key_ll] at h; exact wpAny_eqBool_int h
     · rw [key_lr] at h; exact SeqAt.EqAt.int_str i t y u _ _ _ _ h
   · rcases keyIs_shape hv with ⟨j, u, rfl, rfl⟩ | ⟨y, u, rfl, rfl⟩
     · rw [key_rl] at h; exact SeqAt.EqAt.str_int x t j u _ _ _ _ h
     · rw [key_rr] at h; exact wpAny_eqBool_str h
 «strs» := fun k x t v h => by
   rcases keyIs_shape h with ⟨i, u, rfl, e⟩ | ⟨y, u, rfl, e⟩
   · exact nomatch e
   · injection e with e1 _
     subst e1
     cases v <;> rfl
end L2
namespace L2
open PySem PySem.Spec PyProof.Rows
inductive V where
 | non | bl (b : Bool) | int (i : Int) | str (x : Str) | byt (b : Array UInt8) | flt (b : UInt64) | ref (a : Addr) | ty (n : String)
 deriving DecidableEq
noncomputable def RelV : V → Value → Prop
 | .non, u => u = Value.none
 | .bl b, u => u = Value.bool b
 | .int i, u => ∃ t, u = Value.int i t
 | .str x, u => ∃ t, u = Value.str x t
 | .byt b, u => ∃ t, u = Value.bytes b t
 | .flt b, u => ∃ t, u = Value.float b t
 | .ref a, u => u = Value.ref a
 | .ty n, u => u = Value.type n
noncomputable abbrev Vals : List V → List Value → Prop := Paired RelV
theorem Vals.length {xs : List V} {us : List Value} (r : Vals xs us) : xs.length = us.length := Paired.length r
theorem Vals.get : ∀ {xs : List V} {us : List Value} {i : Nat} {x : V}, Vals xs us → xs[i]? = some x → ∃ u, us[i]? = some u ∧ RelV x u
 | _, _, _, _, .nil, e => by simp at e
 | _, _, 0, _, .cons r _, e => by simp at e; subst e; exact ⟨_, rfl, r⟩
 | _, _, i + 1, x, .cons _ t, e => by
   obtain ⟨u, h1, h2⟩ := Vals.get (i := i) (x := x) t (by simpa using e)
   exact ⟨u, by simpa using h1, h2⟩
theorem Vals.set {x : V} {u : Value} (r : RelV x u) : ∀ {xs : List V} {us : List Value} (i : Nat), Vals xs us → Vals (xs.set i x) (us.set i u)
 | _, _, _, .nil => .nil
 | _, _, 0, .cons _ t => .cons r t
 | _, _, i + 1, .cons q t => .cons q (Vals.set r i t)
theorem Vals.append : ∀ {xs ys : List V} {us ws : List Value}, Vals xs us → Vals ys ws → Vals (xs ++ ys) (us ++ ws)
 | _, _, _, _, .nil, s => s
 | _, _, _, _, .cons r t, s => .cons r (Vals.append t s)
theorem Vals.take : ∀ {xs : List V} {us : List Value} (n : Nat), Vals xs us → Vals (xs.take n) (us.take n)
 | _, _, 0, _ => .nil
 | _, _, _ + 1, .nil => .nil
 | _, _, n + 1, .cons r t => .cons r (Vals.take n t)
theorem Vals.drop : ∀ {xs : List V} {us : List Value} (n : Nat), Vals xs us → Vals (xs.drop n) (us.drop n)
 | _, _, 0, r => r
 | _, _, _ + 1, .nil => .nil
 | _, _, n + 1, .cons _ t => Vals.drop n t
noncomputable def RelO : Option V → Option Value → Prop
 | some v, some u => RelV v u
 | none, none => True
 | _, _ => False
noncomputable def KV {κ : Type} : List (κ × V) → List (κ × Value) → Prop := Paired fun (p : κ × V) (q : κ × Value) => p.1 = q.1 ∧ RelV p.2 q.2
noncomputable def kV : Key → V
 | .inl i => .int i
 | .inr x => .str x
inductive HO where
 /-- a list -/
 | lst (xs : List V)
 /-- a tuple (never changes) -/
 | tup (xs : List V)
 /-- a dict whose keys are ints and texts; one whose keys are tuples of ints and texts (the empty one is both) -/
 | dK (kvs : List (Key × V)) | dT (kvs : List (List Key × V))
 /-- a set of ints: its members, its size -/
 | set (S : Int → Bool) (n : Nat)
 /-- an instance of the class at C, its dict at dx, its attributes -/
 | ins (C dx : Addr) (fs : List (Str × V))
 /-- the dict of the instance at x -/
 | own (x : Addr)
 /-- the dict of an exception -/
 | xd (fs : List (Str × V))
 /-- a bound method, f of x -/
 | met (f x : Addr)
 /-- a range object lo, lo + 1, .. below hi -/
 | rng (lo hi : Int)
 /-- a thing that is known to the object (the script; a dict while a loop walks it): read, never written while it is so -/
 | frz (o : Obj) (u : HO)
 /-- a code object's table -/
 | tbl (ps : Array Value)
 /-- any other thing, by what is true of its one object (a def of one's own: SetO a S n := HO.ext fun h => ..) -/
 | ext (φ : Heap → Prop)
noncomputable abbrev Hp := Addr → Option HO
noncomputable def IsTup0 (h : Heap) (a : Addr) (items : Array Value) : Prop := ∃ o, h.get? a = some o ∧ o.cls = .type "tuple" ∧ o.dict = none ∧ ∃ n, o.data = .seq items n
theorem IsTup0.t {h : Heap} {a : Addr} {items : Array Value} (x : IsTup0 h a items) : IsTup h a items := let ⟨o, e, c, _, n, d⟩ := x; ⟨o, e, c, n, d⟩
theorem IsTup0.lt {h : Heap} {a : Addr} {items : Array Value} (x : IsTup0 h a items) : a < h.objs.size := x.t.lt
theorem IsTup0.new (h : Heap) (items : Array Value) : IsTup0 (h.push { cls := .type "tuple", data := .seq items }) h.objs.size items := ⟨_, Heap.get?_push_size _ rfl, rfl, rfl, 0, rfl⟩
noncomputable def upd (H : Hp) (a : Addr) (o : HO) : Hp := fun b => if b = a then some o else H b
theorem upd_same {H : Hp} {a : Addr} {o : HO} : upd H a o a = some o := by unfold upd; rw [if_pos rfl]
theorem upd_ne {H : Hp} {a b : Addr} {o : HO} (h : b ≠ a) : upd H a o b = H b := by unfold upd; rw [if_neg h]
theorem ne_of_none {H : Hp} {a b : Addr} {o : HO} (h : H a = some o) (h' : H b = none) : a ≠ b := by
 intro e; subst e; rw [h] at h'; cases h'
section
variable (P : Program) (w : World)
noncomputable def ObjOk (H : Hp) (h : Heap) (a : Addr) : HO → Prop
 | .lst xs => xs.length ≤ sizeLine ∧ ∃ (its : List Value) (n : Nat), Vals xs its ∧ h.get? a = some { cls := .type "list", data := .seq its.toArray n }
 | .tup xs => xs.length ≤ sizeLine ∧ ∃ its : List Value, Vals xs its ∧ IsTup0 h a its.toArray
 | .dK kvs => kvs.length ≤ sizeLine ∧ (a == sysModules) = false ∧ ∃ vs, KV kvs vs ∧ h.DictOf (mixKind P w) a vs
 | .dT kvs => kvs.length ≤ sizeLine ∧ (a == sysModules) = false ∧ ∃ xs : List (List Key × Addr × Value),
     Paired (fun (p : List Key × V) (q : List Key × Addr × Value) => p.1 = q.1 ∧ H q.2.1 = some (.tup (p.1.map kV)) ∧ RelV p.2 q.2.2) kvs xs ∧
     ∃ o es ep, h.get? a = some o ∧ o.ExactDict ∧ o.data = .dict es ep ∧ es.toList = xs.map (entryOfKey (tupleKind (mixKind P w))) ∧ (xs.map (·.1)).Nodup
 | .set S n => h.SetOf (intKind P w) a S n
 | .ins C dx fs => H dx = some (.own a) ∧ fs.length ≤ 1000 ∧ dx ≠ a ∧ h.get? a = some (PySem.W.instObj C dx) ∧
     ∃ mA, h.Ns1 dx mA ∧ (∀ f, RelO (fs.lookup f) (mA f)) ∧ PySem.Within mA (fs.map (·.1))
 | .own _ => ∃ o, h.get? a = some o
 | .xd fs => ∃ mA, h.Ns1 a mA ∧ ∀ f, RelO (fs.lookup f) (mA f)
 | .rng lo hi => ∃ t u v, h.get? a = some { cls := .type "range", data := .fields #[.int lo t, .int hi u, .int 1 v] }
 | .frz o u => h.get? a = some o ∧ ObjOk H h a u
 | .tbl ps => h.get? a = some { cls := .none, data := .fields ps }
 | .met f x => h.get? a = some (PySem.W.methodObj (.ref f) (.ref x))
 | .ext φ => φ h ∧ (∃ o, h.get? a = some o) ∧ ∀ h1 h2 : Heap, φ h1 → (∀ o, h1.get? a = some o → h2.get? a = some o) → φ h2
noncomputable def HOk (H : Hp) (h : Heap) : Prop := ∀ a o, H a = some o → ObjOk P w H h a o
end
section
variable {P : Program} {w : World} {H H' : Hp} {h h' : Heap} {a : Addr} {o : HO}
theorem ObjOk.lt (x : ObjOk P w H h a o) : a < h.objs.size := by
 cases o with
 | lst xs => obtain ⟨_, _, _, _, e⟩ := x; exact Heap.lt_size e
 | tup xs => obtain ⟨_, _, _, p⟩ := x; exact p.lt
 | dK kvs => obtain ⟨_, _, _, _, o, _, _, e, _⟩ := x; exact Heap.lt_size e
 | dT kvs => obtain ⟨_, _, _, _, o, _, _, e, _⟩ := x; exact Heap.lt_size e
 | set S n => obtain ⟨o, _, _, _, e, _⟩ := x; exact Heap.lt_size e
 | ins C dx fs => obtain ⟨_, _, _, e, _⟩ := x; exact Heap.lt_size e
 | own y => obtain ⟨_, e⟩ := x; exact Heap.lt_size e
 | xd fs => obtain ⟨_, ⟨_, _, _, e, _⟩, _⟩ := x; exact Heap.lt_size e
 | rng lo hi => obtain ⟨_, _, _, e⟩ := x; exact Heap.lt_size e
 | frz ob u => obtain ⟨e, _⟩ := x; exact Heap.lt_size e
 | tbl ps => exact Heap.lt_size (show h.get? a = some _ from x)
 | met f y => exact Heap.lt_size (show h.get? a = some _ from x)
 | ext φ => obtain ⟨_, ⟨_, e⟩, _⟩ := x; exact Heap.lt_size e
theorem Paired.mapP {α β : Type} {F G : α → β → Prop} : ∀ {l₁ : List α} {l₂ : List β}, Paired F l₁ l₂ → (∀ a b, F a b → G a b) → Paired G l₁ l₂
 | _, _, .nil, _ => .nil
 | _, _, .cons r t, f => .cons (f _ _ r) (Paired.mapP t f)
theorem ObjOk.stay (x : ObjOk P w H h a o) (k : ∀ b u, (b = a ∨ H b = some (.own a)) → h.get? b = some u → h'.get? b = some u)
   (ho : ∀ b, H b = some (.own a) → H' b = some (.own a)) (ht : ∀ b xs, H b = some (.tup xs) → H' b = some (.tup xs)) : ObjOk P w H' h' a o := by
 induction o with
 | lst xs => obtain ⟨z, its, n, r, e⟩ := x; exact ⟨z, its, n, r, k _ _ (.inl rfl) e⟩
 | tup xs => obtain ⟨z, its, r, ob, e, c⟩ := x; exact ⟨z, its, r, ob, k _ _ (.inl rfl) e, c⟩
 | dK kvs => obtain ⟨z, y, vs, r, ob, es, ep, e, c⟩ := x; exact ⟨z, y, vs, r, ob, es, ep, k _ _ (.inl rfl) e, c⟩
 | dT kvs =>
   obtain ⟨z, y, xs, r, ob, es, ep, e, c⟩ := x
   exact ⟨z, y, xs, Paired.mapP r fun p q z => ⟨z.1, ht _ _ z.2.1, z.2.2⟩, ob, es, ep, k _ _ (.inl rfl) e, c⟩
 | set S n => obtain ⟨ob, es, ep, t, e, c⟩ := x; exact ⟨ob, es, ep, t, k _ _ (.inl rfl) e, c⟩
 | ins C dx fs =>
   obtain ⟨d, z, ne, e, mA, ⟨od, es, ep, e2, c⟩, r⟩ := x
   exact ⟨ho _ d, z, ne, k _ _ (.inl rfl) e, mA, ⟨od, es, ep, k _ _ (.inr d) e2, c⟩, r⟩
 | own y => obtain ⟨ob, e⟩ := x; exact ⟨ob, k _ _ (.inl rfl) e⟩
 | xd fs => obtain ⟨mA, ⟨od, es, ep, e, c⟩, r⟩ := x; exact ⟨mA, ⟨od, es, ep, k _ _ (.inl rfl) e, c⟩, r⟩
 | rng lo hi => obtain ⟨t, u, v, e⟩ := x; exact ⟨t, u, v, k _ _ (.inl rfl) e⟩
 | frz ob u ih => obtain ⟨e, q⟩ := x; exact ⟨k _ _ (.inl rfl) e, ih q⟩
 | tbl ps =>
   have e : h.get? a = some { cls := .none, data := .fields ps } := x
   show h'.get? a = some { cls := .none, data := .fields ps }
   exact k a _ (.inl rfl) e
 | met f y =>
   have e : h.get? a = some (PySem.W.methodObj (.ref f) (.ref y)) := x
   show h'.get? a = some (PySem.W.methodObj (.ref f) (.ref y))
   exact k a _ (.inl rfl) e
 | ext φ => obtain ⟨p, ⟨o, e⟩, st⟩ := x; exact ⟨st _ _ p fun o q => k _ _ (.inl rfl) q, ⟨o, k _ _ (.inl rfl) e⟩, st⟩
theorem HOk.lt (x : HOk P w H h) (e : H a = some o) : a < h.objs.size := (x a o e).lt
theorem HOk.fresh (x : HOk P w H h) (e : h.objs.size ≤ a) : H a = none := by
 cases q : H a with
 | none => rfl
 | some u => exact absurd (Nat.lt_of_lt_of_le (x.lt q) e) (Nat.lt_irrefl _)
theorem HOk.kept (x : HOk P w H h) (k : ∀ b u, h.get? b = some u → h'.get? b = some u) : HOk P w H h' := fun a o e =>
 (x a o e).stay (fun b u _ q => k b u q) (fun _ q => q) fun _ _ q => q
theorem HOk.laid (x : HOk P w H h) (k : ∀ b u, h.get? b = some u → h'.get? b = some u) (hp : h.objs.size ≤ a) (new : ObjOk P w (upd H a o) h' a o) : HOk P w (upd H a o) h' := fun b u e => by
 have hn := x.fresh hp
 by_cases hb : b = a
 · subst hb; rw [upd_same] at e; cases e; exact new
 · rw [upd_ne hb] at e
   exact (x b u e).stay (fun c v _ q => k c v q) (fun c q => by rw [upd_ne (ne_of_none q hn)]; exact q) fun c xs q => by rw [upd_ne (ne_of_none q hn)]; exact q
end
noncomputable def Rd (H : Hp) (a : Addr) (u : HO) : Prop := H a = some u ∨ ∃ o, H a = some (.frz o u)
theorem Rd.ok {P : Program} {w : World} {H : Hp} {h : Heap} {a : Addr} {u : HO} (r : Rd H a u) (x : HOk P w H h) : ObjOk P w H h a u := by
 rcases r with r | ⟨o, r⟩
 · exact x a u r
 · obtain ⟨_, q⟩ := x a _ r
   exact q
noncomputable def Mut : Option HO → Prop
 | some (.lst _) => True
 | some (.dK _) => True
 | some (.dT _) => True
 | some (.set _ _) => True
 | some (.ins _ _ _) => True
 | some (.ext _) => True
 | _ => False
section
variable {P : Program} {w : World} {H : Hp} {h h' : Heap} {x e : Addr} {o' : HO}
theorem HOk.write (ok : HOk P w H h) (mu : Mut (H x)) (he : e = x ∨ H e = some (.own x)) (k : ∀ b u, b ≠ e → h.get? b = some u → h'.get? b = some u) (heo : ∃ u, h'.get? e = some u)
   (new : ObjOk P w (upd H x o') h' x o') : HOk P w (upd H x o') h' := fun b u q => by
 have nown : ∀ c y, H c = some (.own y) → c ≠ x := fun c y r z => by subst z; rw [r] at mu; exact mu
 have ntup : ∀ c xs, H c = some (.tup xs) → c ≠ x := fun c xs r z => by subst z; rw [r] at mu; exact mu
 by_cases hb : b = x
 · subst hb; rw [upd_same] at q; cases q; exact new
 · rw [upd_ne hb] at q
   by_cases hbe : b = e
   · have q' : H b = some (.own x) := by
       rcases he with z | z
       · exact absurd (hbe.trans z) hb
       · rw [hbe]; exact z
     rw [q] at q'; cases q'
     obtain ⟨v, hv⟩ := heo
     exact ⟨v, by rw [hbe]; exact hv⟩
   · refine (ok b u q).stay (fun c v hc r => k c v ?_ r) (fun c r => by rw [upd_ne (nown c b r)]; exact r) fun c xs r => by rw [upd_ne (ntup c xs r)]; exact r
     rcases hc with rfl | hc
     · exact hbe
     · rintro rfl
       rcases he with z | z
       · exact nown c b hc z
       · rw [hc] at z; cases z; exact hb rfl
end
structure Un (fs ex : List Addr) (H H' : Hp) (h h' : Heap) : Prop where
 keep : ∀ b o, h.get? b = some o → H b = none → b ∉ fs → b ∉ ex → h'.get? b = some o
 slot : ∀ b o, h.get? b = some o → H b = none → b ∈ fs → b ∉ ex → ∃ sl, h'.get? b = some { o with slots := sl }
 free : ∀ b o, h.get? b = some o → H b = none → b ∉ ex → H' b = none
 there : ∀ b o, h.get? b = some o → b ∉ ex → ∃ o', h'.get? b = some o'
 tups : ∀ b xs, H b = some (.tup xs) → H' b = some (.tup xs)
 frzs : ∀ b o u, H b = some (.frz o u) → H' b = some (.frz o u)
 tbls : ∀ b ps, H b = some (.tbl ps) → ∃ more, H' b = some (.tbl (ps ++ more))
section
variable {fs fs' ex ex' : List Addr} {H H1 H2 : Hp} {h h1 h2 h' : Heap} {a x e : Addr} {o : HO}
theorem Un.any (u : Un fs ex H H1 h h1) {b : Addr} {ob : Obj} (q : h.get? b = some ob) (n : H b = none) (hx : b ∉ ex) : ∃ sl, h1.get? b = some { ob with slots := sl } := by
 by_cases hb : b ∈ fs
 · exact u.slot b ob q n hb hx
 · exact ⟨ob.slots, u.keep b ob q n hb hx⟩
theorem Un.kept (k : ∀ b u, h.get? b = some u → h'.get? b = some u) : Un fs ex H H h h' :=
 ⟨fun b ob q _ _ _ => k b ob q, fun b ob q _ _ _ => ⟨ob.slots, k b ob q⟩, fun _ _ _ n _ => n, fun b ob q _ => ⟨ob, k b ob q⟩, fun _ _ q => q, fun _ _ _ q => q, fun _ ps q => ⟨#[], by rw [q]; simp⟩⟩
theorem Un.refl : Un fs ex H H h h := Un.kept fun _ _ q => q
theorem Un.laid (k : ∀ b u, h.get? b = some u → h'.get? b = some u) (hp : h.objs.size ≤ a) (hn : H a = none) : Un fs ex H (upd H a o) h h' where
 keep := fun b u q _ _ _ => k b u q
 slot := fun b u q _ _ _ => ⟨u.slots, k b u q⟩
 free := fun b u q n _ => by rw [upd_ne (Nat.ne_of_lt (Nat.lt_of_lt_of_le (Heap.lt_size q) hp))]; exact n
 there := fun b u q _ => ⟨u, k b u q⟩
 tups := fun b xs q => by rw [upd_ne (ne_of_none q hn)]; exact q
 frzs := fun b u xs q => by rw [upd_ne (ne_of_none q hn)]; exact q
 tbls := fun b ps q => ⟨#[], by rw [upd_ne (ne_of_none q hn), q]; simp⟩
theorem Un.write (mu : Mut (H x)) (he : e = x ∨ H e = some (.own x)) (k : ∀ b u, b ≠ e → h.get? b = some u → h'.get? b = some u) (heo : ∃ u, h'.get? e = some u) : Un fs ex H (upd H x o) h h' := by
 have hx : ∀ b, H b = none → b ≠ x := fun b n z => by subst z; rw [n] at mu; exact mu
 have hb : ∀ b, H b = none → b ≠ e := fun b n z => by
   subst z
   rcases he with r | r
   · exact hx b n r
   · rw [n] at r; cases r
 have hm : ∀ b u, H b = some u → ¬ Mut (some u) → b ≠ x := fun b u q nm z => by subst z; rw [q] at mu; exact nm mu
 refine ⟨fun b u q n _ _ => k b u (hb b n) q, fun b u q n _ _ => ⟨u.slots, k b u (hb b n) q⟩, fun b u q n _ => by rw [upd_ne (hx b n)]; exact n, fun b u q _ => ?_,
   fun b xs q => by rw [upd_ne (hm b _ q fun z => z)]; exact q, fun b u xs q => by rw [upd_ne (hm b _ q fun z => z)]; exact q, fun b ps q => ⟨#[], by rw [upd_ne (hm b _ q fun z => z), q]; simp⟩⟩
 by_cases hbe : b = e
 · subst hbe; exact heo
 · exact ⟨u, k b u hbe q⟩
end
noncomputable def trk (h : Heap) (H : Hp) : List Addr := (List.range h.objs.size).filter fun a => (H a).isSome
noncomputable def hidT (h : Heap) (H : Hp) : Heap := PySem.W.hideAll h (trk h H)
theorem hidT_size (h : Heap) (H : Hp) : (hidT h H).objs.size = h.objs.size := PySem.W.hideAll_size _ _
theorem hidT_get {h : Heap} {H : Hp} {b : Addr} {o : Obj} (e : h.get? b = some o) (n : H b = none) : (hidT h H).get? b = some o :=
 PySem.W.hideAll_get _ e fun hm => by
   have q : (H b).isSome = true := (List.mem_filter.mp hm).2
   rw [n] at q; simp at q
theorem of_hidT {h : Heap} {H : Hp} {b : Addr} {o : Obj} (e : (hidT h H).get? b = some o) : h.get? b = some o ∧ H b = none := by
 have e' : h.get? b = some o := PySem.W.of_hideAll (trk h H) e
 refine ⟨e', ?_⟩
 cases q : H b with
 | none => rfl
 | some x =>
   have hm : b ∈ trk h H := List.mem_filter.mpr ⟨List.mem_range.mpr (Heap.lt_size e'), by simp [q]⟩
   have z : (hidT h H).get? b = none := PySem.W.hideAll_none (trk h H) hm
   rw [z] at e; cases e
end L2
namespace L2
open PySem PySem.Spec PyProof.Rows
structure Mod (K : PySem.W.Frag) (mg : Str → Option Value) (base : Heap) : Prop where
 kin : K.In base
 glob : base.Ns mainGlobals mg
 blt : ∃ mb, base.Ns builtinsNs mb ∧ ∀ x : Str, x ≠ "__name__" → mb x = bootBuiltins x
 nolimit : base.NoLimit
structure Cx where
 prog : Program
 w : World
 K : PySem.W.Frag
 mg : Str → Option Value
 base : Heap
 A : Around
 N : List Str
 s₀ : Shared
 H₀ : Hp
 env : Env
 outer : List Env
 stack : List Env
 ex : List Addr
 fn : Str → Bool
 calm : Bool
 pn : List (Addr × Obj)
 xe : Value → Shared → Prop
noncomputable def frs (l : List Env) : List Addr := l.filterMap (·.frame)
noncomputable abbrev Cx.fs (X : Cx) : List Addr := frs X.outer
noncomputable def Vis (sc : Scope) (x : Str) : Prop := sc.names.lookup x = some .local ∨ sc.names.lookup x = some .cell ∨ sc.names.lookup x = some .free
noncomputable def Loc (sc : Scope) (x : Str) : Prop := sc.names.lookup x = some .local ∨ sc.names.lookup x = some .cell
noncomputable def Look (env : Env) (h : Heap) (m : Str → Option Value) (x : Str) (u : Value) : Prop :=
 (env.kindOf x = some .local ∧ m x = some u) ∨ ((env.kindOf x = some .cell ∨ env.kindOf x = some .free) ∧ ∃ c, env.cells.lookup x = some c ∧ h.IsCell c (some u))
structure Cx.Ok (X : Cx) : Prop where
 mod : Mod X.K X.mg X.base
 kind : X.env.scope.kind = .function
 glob : X.env.globals = mainGlobals
 blt : X.env.builtins = builtinsNs
 above : X.s₀.heap.objs.size ≤ X.env.locals
 inj : ∀ x y c, X.env.cells.lookup x = some c → X.env.cells.lookup y = some c → x = y
 has : ∀ x, (X.env.kindOf x = some .cell ∨ X.env.kindOf x = some .free) → ∃ c, X.env.cells.lookup x = some c
 cab : ∀ x c, X.fn x = true → X.env.cells.lookup x = some c → X.s₀.heap.objs.size ≤ c
 hd : X.calm = true → X.A.handled = none
 frames : X.A.frames = some X.stack
 stk : X.stack = X.outer ∨ (X.stack = X.env :: X.outer ∧ X.env.frame = some X.env.locals)
 exf : ∀ b ∈ X.ex, b ≠ X.env.locals ∧ ∀ x c, X.env.cells.lookup x = some c → c ≠ b
 bs : ∀ b o, X.base.get? b = some o → X.s₀.heap.get? b = some o ∧ X.H₀ b = none
 bsz : X.base.objs.size ≤ X.s₀.heap.objs.size
 noex : ∀ b o, X.base.get? b = some o → b ∉ X.ex
 exfs : ∀ b ∈ X.ex, b ∉ X.fs
 funs : X.s₀.heap.FunFrames X.base X.outer
 frf : ∀ b ∈ X.fs, X.H₀ b = none
structure Inv (X : Cx) (pins : List (Addr × Obj)) (σ : List (Option V)) (H : Hp) (s : Shared) : Prop where
 ok : X.Ok
 os : s.os = X.s₀.os
 bare : AllBare s.gens
 base : Un X.fs X.ex X.H₀ H X.s₀.heap s.heap
 loc : ∃ m, s.heap.Ns X.env.locals m ∧ ∀ (i : Nat) (x : Str) (v : V), X.N[i]? = some x → σ[i]? = some (some v) → Vis X.env.scope x → ∃ u, RelV v u ∧ Look X.env s.heap m x u
 cell : ∀ x c, X.env.cells.lookup x = some c → ∃ v, s.heap.IsCell c v
 free : H X.env.locals = none
 freeC : ∀ x c, X.env.cells.lookup x = some c → H c = none
 pin : ∀ p ∈ X.pn ++ pins, s.heap.get? p.1 = some p.2 ∧ H p.1 = none ∧ p.1 ≠ X.env.locals ∧ p.1 ∉ X.fs ∧ ∀ v, p.2.data ≠ .cell v
 hok : HOk X.prog X.w H s.heap
 len : σ.length = X.N.length
section
variable {X : Cx} {pins : List (Addr × Obj)} {σ : List (Option V)} {H H' : Hp} {s : Shared} {h' : Heap}
theorem Cx.Ok.nofr (ok : X.Ok) {b : Addr} {o : Obj} (e : X.base.get? b = some o) : b ∉ X.fs := fun hb => by
 have := (ok.funs.mem hb).1
 rw [e] at this; cases this
theorem Inv.bs (I : Inv X pins σ H s) : ∀ b o, X.base.get? b = some o → s.heap.get? b = some o ∧ H b = none := fun b o e =>
 ⟨I.base.keep b o (I.ok.bs b o e).1 (I.ok.bs b o e).2 (I.ok.nofr e) (I.ok.noex b o e), I.base.free b o (I.ok.bs b o e).1 (I.ok.bs b o e).2 (I.ok.noex b o e)⟩
theorem Inv.bk (I : Inv X pins σ H s) : ∀ b o, X.base.get? b = some o → s.heap.get? b = some o := fun b o e => (I.bs b o e).1
theorem Inv.mod (I : Inv X pins σ H s) : Mod X.K X.mg X.base := I.ok.mod
theorem Inv.kIn (I : Inv X pins σ H s) : X.K.In s.heap := I.ok.mod.kin.keeps I.bk
theorem Inv.lt (I : Inv X pins σ H s) : X.env.locals < s.heap.objs.size := let ⟨_, hn, _⟩ := I.loc; hn.lt
theorem Inv.sz (I : Inv X pins σ H s) : X.s₀.heap.objs.size ≤ s.heap.objs.size := Nat.le_trans I.ok.above (Nat.le_of_lt I.lt)
theorem Inv.nofs (I : Inv X pins σ H s) {a : Addr} (h : s.heap.objs.size ≤ a) : a ∉ X.fs := fun hb => by
 obtain ⟨_, o, ho, _⟩ := I.ok.funs.mem hb
 exact absurd (Nat.lt_of_lt_of_le (Heap.lt_size ho) (Nat.le_trans I.sz h)) (Nat.lt_irrefl _)
theorem Inv.cne (I : Inv X pins σ H s) : ∀ x c, X.env.cells.lookup x = some c → c ≠ X.env.locals := fun x c e z => by
 obtain ⟨v, o, ho, hd⟩ := I.cell x c e
 obtain ⟨m, ⟨o', es, ep, ho', hd', _⟩, _⟩ := I.loc
 rw [z, ho'] at ho; cases ho; rw [hd'] at hd; cases hd
theorem Inv.funs (I : Inv X pins σ H s) : s.heap.FunFrames X.base X.outer := by
 have all : ∀ (l : List Env), (∀ b ∈ frs l, b ∈ X.fs) → X.s₀.heap.FunFrames X.base l → s.heap.FunFrames X.base l := by
   intro l
   induction l with
   | nil => intro _ _; trivial
   | cons env r ih =>
     intro hs hl
     obtain ⟨hk, ⟨L, o, hf, hn, ho, hd⟩, hr⟩ := hl
     have hL : L ∈ X.fs := hs L (by unfold frs; rw [List.filterMap_cons, hf]; exact List.mem_cons_self)
     obtain ⟨sl, e⟩ := I.base.slot L o ho (I.ok.frf L hL) hL fun z => I.ok.exfs L z hL
     exact ⟨hk, ⟨L, _, hf, hn, e, hd⟩, ih (fun b hb => hs b (by unfold frs; rw [List.filterMap_cons, hf]; exact List.mem_cons_of_mem _ hb)) hr⟩
 exact all X.outer (fun _ hb => hb) I.ok.funs
theorem Inv.stack (I : Inv X pins σ H s) : s.heap.FunFrames X.base X.stack := by
 rcases I.ok.stk with e | ⟨e, hf⟩
 · rw [e]; exact I.funs
 · rw [e]
   obtain ⟨m, hn, _⟩ := I.loc
   refine .cons (by rw [I.ok.kind]; decide) hf hn ?_ I.funs
   exact Heap.get?_none_of_le (Nat.le_trans I.ok.bsz I.ok.above)
theorem Inv.stkSub (I : Inv X pins σ H s) : ∀ b ∈ frs X.stack, b ∈ X.env.locals :: X.fs := fun b hb => by
 rcases I.ok.stk with e | ⟨e, hf⟩
 · rw [e] at hb; exact List.mem_cons_of_mem _ hb
 · rw [e] at hb
   unfold frs at hb
   rw [List.filterMap_cons, hf] at hb
   exact hb
theorem Inv.stkFree (I : Inv X pins σ H s) : ∀ b ∈ frs X.stack, H b = none := fun b hb => by
 rcases List.mem_cons.mp (I.stkSub b hb) with e | hb
 · rw [e]; exact I.free
 · obtain ⟨_, o, ho, _⟩ := I.ok.funs.mem hb
   exact I.base.free b o ho (I.ok.frf b hb) fun z => I.ok.exfs b z hb
theorem Inv.step {g' : Array GenState} {t' : Nat} {d' : Drawn} {ch : List Addr} (I : Inv X pins σ H s)
   (hch : ∀ b ∈ ch, (b ∈ X.ex ∨ X.s₀.heap.objs.size ≤ b) ∧ b ≠ X.env.locals ∧ (∀ x c, X.env.cells.lookup x = some c → c ≠ b) ∧ ∀ p ∈ X.pn ++ pins, p.1 ≠ b)
   (keep : ∀ b o, b ≠ X.env.locals → b ∉ X.fs → b ∉ ch → s.heap.get? b = some o → H b = none → h'.get? b = some o)
   (slot : ∀ b o, b ≠ X.env.locals → b ∈ X.fs → b ∉ ch → s.heap.get? b = some o → H b = none → ∃ sl, h'.get? b = some { o with slots := sl }) (free : ∀ b o, b ∉ ch → s.heap.get? b = some o → H b = none → H' b = none)
   (there : ∀ b o, b ∉ ch → s.heap.get? b = some o → ∃ o', h'.get? b = some o')
   (tups : ∀ b xs, H b = some (.tup xs) → H' b = some (.tup xs)) (frzs : ∀ b o u, H b = some (.frz o u) → H' b = some (.frz o u)) (tbls : ∀ b ps, H b = some (.tbl ps) → ∃ more, H' b = some (.tbl (ps ++ more)))
   (ns : ∀ m, s.heap.Ns X.env.locals m → h'.Ns X.env.locals m) (hok : HOk X.prog X.w H' h') (hg : AllBare g') :
   Inv X pins σ H' { s with heap := h', gens := g', drawn := d', toks := t' } := by
 have neL : ∀ b o, X.s₀.heap.get? b = some o → b ≠ X.env.locals := fun b o e => Nat.ne_of_lt (Nat.lt_of_lt_of_le (Heap.lt_size e) I.ok.above)
 have neC : ∀ b o, X.s₀.heap.get? b = some o → b ∉ X.ex → b ∉ ch := fun b o e hx hb => by
   rcases (hch b hb).1 with z | z
   · exact hx z
   · exact absurd (Nat.lt_of_lt_of_le (Heap.lt_size e) z) (Nat.lt_irrefl _)
 have cellK : ∀ x c, X.env.cells.lookup x = some c → ∀ v, s.heap.IsCell c v → h'.IsCell c v := fun x c e v ⟨o, ho, hd⟩ => by
   have nch : c ∉ ch := fun z => (hch c z).2.2.1 x c e rfl
   by_cases hc : c ∈ X.fs
   · obtain ⟨sl, q⟩ := slot c o (I.cne x c e) hc nch ho (I.freeC x c e)
     exact ⟨_, q, hd⟩
   · exact ⟨o, keep c o (I.cne x c e) hc nch ho (I.freeC x c e), hd⟩
 refine ⟨I.ok, I.os, hg, ⟨fun b o e n hb hx => ?_, fun b o e n hb hx => ?_, fun b o e n hx => ?_, fun b o e hx => ?_, fun b xs e => tups b xs (I.base.tups b xs e), fun b o xs e => frzs b o xs (I.base.frzs b o xs e), fun b ps e => ?_⟩, ?_, fun x c e => ?_, ?_, fun x c e => ?_, fun p hp => ?_, hok, I.len⟩
 · exact keep b o (neL b o e) hb (neC b o e hx) (I.base.keep b o e n hb hx) (I.base.free b o e n hx)
 · obtain ⟨sl, e1⟩ := I.base.slot b o e n hb hx
   obtain ⟨sl', e2⟩ := slot b _ (neL b o e) hb (neC b o e hx) e1 (I.base.free b o e n hx)
   exact ⟨sl', e2⟩
 · obtain ⟨o', e1⟩ := I.base.there b o e hx
   exact free b o' (neC b o e hx) e1 (I.base.free b o e n hx)
 · obtain ⟨o', e1⟩ := I.base.there b o e hx
   exact there b o' (neC b o e hx) e1
 · obtain ⟨m1, e1⟩ := I.base.tbls b ps e
   obtain ⟨m2, e2⟩ := tbls b _ e1
   exact ⟨m1 ++ m2, by rw [e2, Array.append_assoc]⟩
 · obtain ⟨m, hn, hl⟩ := I.loc
   refine ⟨m, ns m hn, fun i x v e1 e2 e3 => ?_⟩
   obtain ⟨u, r, l⟩ := hl i x v e1 e2 e3
   refine ⟨u, r, ?_⟩
   rcases l with l | ⟨k, c, e, z⟩
   · exact .inl l
   · exact .inr ⟨k, c, e, cellK x c e _ z⟩
 · obtain ⟨v, z⟩ := I.cell x c e
   exact ⟨v, cellK x c e v z⟩
 · obtain ⟨m, ⟨o, _, _, ho, _⟩, _⟩ := I.loc
   exact free _ o (fun z => (hch _ z).2.1 rfl) ho I.free
 · obtain ⟨v, o, ho, hd⟩ := I.cell x c e
   exact free c o (fun z => (hch c z).2.2.1 x c e rfl) ho (I.freeC x c e)
 · obtain ⟨e, n, ne, nf, d⟩ := I.pin p hp
   have nch : p.1 ∉ ch := fun z => (hch p.1 z).2.2.2 p hp rfl
   exact ⟨keep p.1 p.2 ne nf nch e n, free p.1 p.2 nch e n, ne, nf, d⟩
theorem Inv.un {t' : Nat} (I : Inv X pins σ H s) (u : Un X.fs [] H H' s.heap h') (hok : HOk X.prog X.w H' h') : Inv X pins σ H' { s with heap := h', toks := t' } := by
 obtain ⟨m, ⟨o, es, ep, ho, r⟩, _⟩ := id I.loc
 obtain ⟨sl, hL⟩ := u.any ho I.free (by simp)
 exact I.step (g' := s.gens) (d' := s.drawn) (ch := []) (fun _ z => nomatch z) (fun b o _ hb _ e n => u.keep b o e n hb (by simp)) (fun b o _ hb _ e n => u.slot b o e n hb (by simp)) (fun b o _ e n => u.free b o e n (by simp)) (fun b o _ e => u.there b o e (by simp)) u.tups u.frzs u.tbls (fun m' hm => by
   obtain ⟨o', es', ep', ho', r'⟩ := hm
   rw [ho] at ho'; cases ho'
   exact ⟨_, es', ep', hL, r'⟩) hok I.bare
theorem Inv.call {g' : Array GenState} {t' : Nat} {d' : Drawn} {ch : List Addr} (I : Inv X pins σ H s) (u : Un (frs X.stack) ch H H' s.heap h') (hok : HOk X.prog X.w H' h') (hg : AllBare g')
   (hch : ∀ b ∈ ch, (b ∈ X.ex ∨ X.s₀.heap.objs.size ≤ b) ∧ b ≠ X.env.locals ∧ (∀ x c, X.env.cells.lookup x = some c → c ≠ b) ∧ ∀ p ∈ X.pn ++ pins, p.1 ≠ b) :
   Inv X pins σ H' { s with heap := h', gens := g', drawn := d', toks := t' } := by
 obtain ⟨m, ⟨o, es, ep, ho, r⟩, _⟩ := id I.loc
 obtain ⟨sl, hL⟩ := u.any ho I.free fun z => (hch _ z).2.1 rfl
 exact I.step (ch := ch) hch (fun b o hL hb hc e n => u.keep b o e n (fun z => (List.mem_cons.mp (I.stkSub b z)).elim hL hb) hc) (fun b o _ _ hc e n => u.any e n hc) (fun b o hc e n => u.free b o e n hc) (fun b o hc e => u.there b o e hc) u.tups u.frzs u.tbls (fun m' hm => by
   obtain ⟨o', es', ep', ho', r'⟩ := hm
   rw [ho] at ho'; cases ho'
   exact ⟨_, es', ep', hL, r'⟩) hok hg
theorem Inv.turned {t' : Nat} {it : Addr} (I : Inv X pins σ H s) (k : ∀ b o, b ≠ it → s.heap.get? b = some o → h'.get? b = some o) (hn : H it = none) (hL : it ≠ X.env.locals)
   (h1 : it ∈ X.ex ∨ X.s₀.heap.objs.size ≤ it) (h2 : ∀ x c, X.env.cells.lookup x = some c → c ≠ it) (h3 : ∀ p ∈ X.pn ++ pins, p.1 ≠ it) : Inv X pins σ H { s with heap := h', toks := t' } := by
 have nit : ∀ b u, H b = some u → b ≠ it := fun b u e z => by rw [z, hn] at e; cases e
 refine I.step (g' := s.gens) (d' := s.drawn) (ch := [it]) (fun b hb => ?_) (fun b o _ _ hc e _ => k b o (fun z => hc (by simp [z])) e) (fun b o _ _ hc e _ => ⟨o.slots, k b o (fun z => hc (by simp [z])) e⟩) (fun _ _ _ _ n => n)
   (fun b o hc e => ⟨o, k b o (fun z => hc (by simp [z])) e⟩) (fun _ _ e => e) (fun _ _ _ e => e) (fun b ps e => ⟨#[], by rw [e]; simp⟩) (fun m hm => ?_) (fun b u e => ?_) I.bare
 · have e : b = it := by simpa using hb
   subst e
   exact ⟨h1, hL, h2, h3⟩
 · obtain ⟨o, es, ep, ho, r⟩ := hm
   exact ⟨o, es, ep, k _ o (Ne.symm hL) ho, r⟩
 · refine (I.hok b u e).stay (fun c v hc q => k c v ?_ q) (fun _ q => q) fun _ _ q => q
   rcases hc with z | z
   · rw [z]; exact nit b u e
   · exact nit c _ z
theorem Inv.tok (I : Inv X pins σ H s) (t : Nat) : Inv X pins σ H { s with toks := t } := I.un (h' := s.heap) (t' := t) Un.refl I.hok
theorem Inv.kept {t' : Nat} (I : Inv X pins σ H s) (k : ∀ b u, s.heap.get? b = some u → h'.get? b = some u) : Inv X pins σ H { s with heap := h', toks := t' } := I.un (Un.kept k) (I.hok.kept k)
theorem Inv.laid {a : Addr} {o : HO} {t' : Nat} (I : Inv X pins σ H s) (k : ∀ b u, s.heap.get? b = some u → h'.get? b = some u) (hp : s.heap.objs.size ≤ a) (new : ObjOk X.prog X.w (upd H a o) h' a o) :
   Inv X pins σ (upd H a o) { s with heap := h', toks := t' } := I.un (Un.laid k hp (I.hok.fresh hp)) (I.hok.laid k hp new)
theorem Inv.write {x e : Addr} {o : HO} {t' : Nat} (I : Inv X pins σ H s) (mu : Mut (H x)) (he : e = x ∨ H e = some (.own x)) (k : ∀ b u, b ≠ e → s.heap.get? b = some u → h'.get? b = some u) (heo : ∃ u, h'.get? e = some u)
   (new : ObjOk X.prog X.w (upd H x o) h' x o) : Inv X pins σ (upd H x o) { s with heap := h', toks := t' } := I.un (Un.write mu he k heo) (I.hok.write mu he k heo new)
theorem Inv.weak {σ' : List (Option V)} (I : Inv X pins σ H s) (hl : σ'.length = σ.length) (w : ∀ (i : Nat) v, σ'[i]? = some (some v) → σ[i]? = some (some v)) : Inv X pins σ' H s :=
 ⟨I.ok, I.os, I.bare, I.base, let ⟨m, hn, hl'⟩ := I.loc; ⟨m, hn, fun i x v e1 e2 e3 => hl' i x v e1 (w i v e2) e3⟩, I.cell, I.free, I.freeC, I.pin, I.hok, hl.trans I.len⟩
theorem Inv.pins_of {pins' : List (Addr × Obj)} (I : Inv X pins σ H s) (h : ∀ p ∈ pins', s.heap.get? p.1 = some p.2 ∧ H p.1 = none ∧ p.1 ≠ X.env.locals ∧ p.1 ∉ X.fs ∧ ∀ v, p.2.data ≠ .cell v) : Inv X pins' σ H s :=
 ⟨I.ok, I.os, I.bare, I.base, I.loc, I.cell, I.free, I.freeC, fun p hp => (List.mem_append.mp hp).elim (fun z => I.pin p (List.mem_append_left _ z)) (h p), I.hok, I.len⟩
theorem nodup_ix {N : List Str} (hN : N.Nodup) {i j : Nat} {x : Str} (a : N[i]? = some x) (b : N[j]? = some x) : i = j := by
 obtain ⟨h1, e1⟩ := List.getElem?_eq_some_iff.mp a
 obtain ⟨h2, e2⟩ := List.getElem?_eq_some_iff.mp b
 exact (List.getElem_inj hN).mp (e1.trans e2.symm)
theorem store_ok2 {M : Model} {A : Around} {E : Value → Shared → Prop} {i : Nat} {x : Str} {v : V} {u : Value} {Q : Unit → Shared → Prop} (I : Inv X pins σ H s) (hN : X.N.Nodup) (hi : X.N[i]? = some x) (hx : Loc X.env.scope x) (r : RelV v u)
   (h : ∀ s', Inv X pins (σ.set i (some v)) H s' → (∃ a, Heap.SameBut a s.heap s'.heap ∧ (a = X.env.locals ∨ X.env.cells.lookup x = some a)) → Q () s') (hf : X.fn x = true ∨ X.env.scope.names.lookup x = some .local := by first | exact .inl rfl | exact .inr rfl | assumption) : wpAny M A (storeName X.env x u) Q E s := by
 obtain ⟨m, hn, hl⟩ := id I.loc
 have hcls : (X.env.scope.kind == .class || (X.env.scope.kind == .module && X.env.locals != X.env.globals)) = false := by rw [I.ok.kind]; rfl
 have hiσ : i < σ.length := by rw [I.len]; exact (List.getElem?_eq_some_iff.mp hi).1
 have cne := I.cne
 have tracked : ∀ {a : Addr} {h' : Heap}, (∃ o, s.heap.get? a = some o ∧ H a = none) → Heap.SameBut a s.heap h' → HOk X.prog X.w H h' := fun {a h'} ha hs b ob e => by
   obtain ⟨_, _, hfree⟩ := ha
   refine (I.hok b ob e).stay (fun c w' hc q => (hs.2 c ?_).trans q) (fun _ q => q) fun _ _ q => q
   rintro rfl
   rcases hc with rfl | hc
   · rw [hfree] at e; cases e
   · rw [hfree] at hc; cases hc
 rcases hx with hk | hk
 · refine wpAny_storeName_local hk hn (fun h' hn' hs => ?_) hcls
   obtain ⟨oL, _, _, hoL, _⟩ := id hn
   refine h _ ⟨I.ok, I.os, I.bare, ⟨fun b o e n hb hx => ?_, fun b o e n hb hx => ?_, I.base.free, fun b o e hx => ?_, I.base.tups, I.base.frzs, I.base.tbls⟩, ⟨_, hn', fun j y v' e1 e2 e3 => ?_⟩, fun y c e => ?_, I.free, I.freeC, fun p hp => ?_, tracked ⟨oL, hoL, I.free⟩ hs, by simpa using I.len⟩ ⟨_, hs, .inl rfl⟩
   · exact (hs.2 b (Nat.ne_of_lt (Nat.lt_of_lt_of_le (Heap.lt_size e) I.ok.above))).trans (I.base.keep b o e n hb hx)
   · obtain ⟨sl, e1⟩ := I.base.slot b o e n hb hx
     exact ⟨sl, (hs.2 b (Nat.ne_of_lt (Nat.lt_of_lt_of_le (Heap.lt_size e) I.ok.above))).trans e1⟩
   · obtain ⟨o', e1⟩ := I.base.there b o e hx
     exact ⟨o', (hs.2 b (Nat.ne_of_lt (Nat.lt_of_lt_of_le (Heap.lt_size e) I.ok.above))).trans e1⟩
   · by_cases hj : j = i
     · subst hj
       rw [hi] at e1; cases e1
       rw [List.getElem?_set_self hiσ] at e2
       cases e2
       exact ⟨u, r, .inl ⟨hk, by simp⟩⟩
     · rw [List.getElem?_set_ne (Ne.symm hj)] at e2
       obtain ⟨u', r', q⟩ := hl j y v' e1 e2 e3
       refine ⟨u', r', ?_⟩
       rcases q with ⟨k, e⟩ | ⟨k, c, e, z⟩
       · refine .inl ⟨k, ?_⟩
         have : y ≠ x := fun e => hj (nodup_ix hN e1 (e ▸ hi))
         simp [this, e]
       · exact .inr ⟨k, c, e, z.sameBut hs (cne y c e)⟩
   · obtain ⟨w', z⟩ := I.cell y c e
     exact ⟨w', z.sameBut hs (cne y c e)⟩
   · obtain ⟨e, n, ne, nf, d⟩ := I.pin p hp
     exact ⟨(hs.2 p.1 ne).trans e, n, ne, nf, d⟩
 · have hfn : X.fn x = true := by
     rcases hf with z | z
     · exact z
     · rw [z] at hk; cases hk
   obtain ⟨c, hc⟩ := I.ok.has x (.inl hk)
   obtain ⟨w', z⟩ := I.cell x c hc
   refine wpAny_storeName_cell I.ok.kind hk hc z (fun h' hc' hs => ?_)
   obtain ⟨oc, hoc, hocd⟩ := id z
   refine h { s with heap := h' } ⟨I.ok, I.os, I.bare, ⟨fun b o e n hb hx => ?_, fun b o e n hb hx => ?_, I.base.free, fun b o e hx => ?_, I.base.tups, I.base.frzs, I.base.tbls⟩, ⟨m, hn.sameBut hs (Ne.symm (cne x c hc)), fun j y v' e1 e2 e3 => ?_⟩, fun y c' e => ?_, I.free, I.freeC, fun p hp => ?_, tracked ⟨oc, hoc, I.freeC x c hc⟩ hs, by simpa using I.len⟩ ⟨c, hs, .inr hc⟩
   · exact (hs.2 b (Nat.ne_of_lt (Nat.lt_of_lt_of_le (Heap.lt_size e) (I.ok.cab x c hfn hc)))).trans (I.base.keep b o e n hb hx)
   · obtain ⟨sl, e1⟩ := I.base.slot b o e n hb hx
     exact ⟨sl, (hs.2 b (Nat.ne_of_lt (Nat.lt_of_lt_of_le (Heap.lt_size e) (I.ok.cab x c hfn hc)))).trans e1⟩
   · obtain ⟨o', e1⟩ := I.base.there b o e hx
     exact ⟨o', (hs.2 b (Nat.ne_of_lt (Nat.lt_of_lt_of_le (Heap.lt_size e) (I.ok.cab x c hfn hc)))).trans e1⟩
   · by_cases hj : j = i
     · subst hj
       rw [hi] at e1; cases e1
       rw [List.getElem?_set_self hiσ] at e2
       cases e2
       exact ⟨u, r, .inr ⟨.inl hk, c, hc, hc'⟩⟩
     · rw [List.getElem?_set_ne (Ne.symm hj)] at e2
       obtain ⟨u', r', q⟩ := hl j y v' e1 e2 e3
       refine ⟨u', r', ?_⟩
       rcases q with q | ⟨k, c', e, z'⟩
       · exact .inl q
       · refine .inr ⟨k, c', e, z'.sameBut hs ?_⟩
         rintro rfl
         exact hj (nodup_ix hN e1 (I.ok.inj _ _ _ e hc ▸ hi))
   · by_cases hcc : c' = c
     · subst hcc; exact ⟨_, hc'⟩
     · obtain ⟨w2, z2⟩ := I.cell y c' e
       exact ⟨w2, z2.sameBut hs hcc⟩
   · obtain ⟨e, n, ne, nf, d⟩ := I.pin p hp
     refine ⟨(hs.2 p.1 ?_).trans e, n, ne, nf, d⟩
     intro q
     rw [q, hoc] at e
     have q' : oc = p.2 := Option.some.inj e
     exact d w' (by rw [← q']; exact hocd)
theorem store_ok {M : Model} {A : Around} {E : Value → Shared → Prop} {i : Nat} {x : Str} {v : V} {u : Value} {Q : Unit → Shared → Prop} (I : Inv X pins σ H s) (hN : X.N.Nodup) (hi : X.N[i]? = some x) (hx : Loc X.env.scope x) (r : RelV v u)
   (h : ∀ s', Inv X pins (σ.set i (some v)) H s' → Q () s') (hf : X.fn x = true ∨ X.env.scope.names.lookup x = some .local := by first | exact .inl rfl | exact .inr rfl | assumption) : wpAny M A (storeName X.env x u) Q E s :=
 store_ok2 I hN hi hx r (fun s' I' _ => h s' I') hf
theorem Inv.call' {s' : Shared} {ch : List Addr} (I : Inv X pins σ H s) (ho : s'.os = s.os) (u : Un (frs X.stack) ch H H' s.heap s'.heap) (hok : HOk X.prog X.w H' s'.heap) (hg : AllBare s'.gens)
   (hch : ∀ b ∈ ch, (b ∈ X.ex ∨ X.s₀.heap.objs.size ≤ b) ∧ b ≠ X.env.locals ∧ (∀ x c, X.env.cells.lookup x = some c → c ≠ b) ∧ ∀ p ∈ X.pn ++ pins, p.1 ≠ b) : Inv X pins σ H' s' := by
 obtain ⟨h', g', d', t', o'⟩ := s'
 have e : o' = s.os := ho
 subst e
 exact I.call (g' := g') (t' := t') (d' := d') u hok hg hch
end
noncomputable abbrev XK := Value → Option Addr → Hp → Prop
noncomputable abbrev St := List (Option V)
noncomputable abbrev VK := V → Hp → Prop
noncomputable abbrev TE := St → Hp → VK → Prop
noncomputable abbrev TT := St → Hp → (Bool → Hp → Prop) → Prop
noncomputable abbrev TA := St → Hp → (List V → Hp → Prop) → Prop
structure Ends where
 nx : St → Hp → Prop
 rt : VK
 bk : St → Hp → Prop := fun _ _ => False
 ct : St → Hp → Prop := fun _ _ => False
noncomputable abbrev TS := Ends → St → Hp → Prop
noncomputable def EP (X : Cx) (pins : List (Addr × Obj)) (σ : St) (Q : VK) (u : Value) (s' : Shared) : Prop := ∃ v H', Inv X pins σ H' s' ∧ RelV v u ∧ Q v H'
noncomputable def TP (X : Cx) (pins : List (Addr × Obj)) (σ : St) (Q : Bool → Hp → Prop) (b : Bool) (s' : Shared) : Prop := ∃ H', Inv X pins σ H' s' ∧ Q b H'
noncomputable def AP (X : Cx) (pins : List (Addr × Obj)) (σ : St) (Q : List V → Hp → Prop) (us : List Value) (s' : Shared) : Prop := ∃ vs H', Inv X pins σ H' s' ∧ Vals vs us ∧ Q vs H'
noncomputable def SP (X : Cx) (pins : List (Addr × Obj)) (D : Ends) (f : Flow) (s' : Shared) : Prop :=
 match f with
 | .next => ∃ σ' H', Inv X pins σ' H' s' ∧ D.nx σ' H'
 | .brk => ∃ σ' H', Inv X pins σ' H' s' ∧ D.bk σ' H'
 | .cont => ∃ σ' H', Inv X pins σ' H' s' ∧ D.ct σ' H'
 | .ret u => ∃ v σ' H', Inv X pins σ' H' s' ∧ RelV v u ∧ D.rt v H'
noncomputable def PE (X : Cx) (e : Expr) (t : TE) : Prop :=
 ∀ (pins : List (Addr × Obj)) (s : Shared) (σ : St) (H : Hp) (Q : VK), Inv X pins σ H s → t σ H Q → wpAny (model X.prog X.w) X.A (eval e X.env) (EP X pins σ Q) X.xe s
noncomputable def PT (X : Cx) (e : Expr) (t : TT) : Prop :=
 ∀ (pins : List (Addr × Obj)) (s : Shared) (σ : St) (H : Hp) (Q : Bool → Hp → Prop), Inv X pins σ H s → t σ H Q → wpAny (model X.prog X.w) X.A (isTrue e X.env (eval e X.env)) (TP X pins σ Q) X.xe s
noncomputable def PW (X : Cx) (e : Expr) (t : TT) : Prop :=
 ∀ (whole : Sem Value) (pins : List (Addr × Obj)) (s : Shared) (σ : St) (H : Hp) (Q : Bool → Hp → Prop), Inv X pins σ H s → t σ H Q → wpAny (model X.prog X.w) X.A (isTrue e X.env whole) (TP X pins σ Q) X.xe s
theorem PW.pt {X : Cx} {e : Expr} {t : TT} (h : PW X e t) : PT X e t := h _
noncomputable def PA (X : Cx) (es : List Expr) (t : TA) : Prop :=
 ∀ (pos : Pos) (pins : List (Addr × Obj)) (s : Shared) (σ : St) (H : Hp) (Q : List V → Hp → Prop), Inv X pins σ H s → t σ H Q → wpAny (model X.prog X.w) X.A (spliced (backTo pos (starEach es X.env))) (AP X pins σ Q) X.xe s
noncomputable def PS (X : Cx) (st : Stmt) (t : TS) : Prop :=
 ∀ (pins : List (Addr × Obj)) (s : Shared) (σ : St) (H : Hp) (D : Ends), Inv X pins σ H s → t D σ H → wpAny (model X.prog X.w) X.A (exec st X.env) (SP X pins D) X.xe s
noncomputable def PSs (X : Cx) (st : List Stmt) (t : TS) : Prop :=
 ∀ (pins : List (Addr × Obj)) (s : Shared) (σ : St) (H : Hp) (D : Ends), Inv X pins σ H s → t D σ H → wpAny (model X.prog X.w) X.A (execs st X.env) (SP X pins D) X.xe s
theorem thn {α : Type} {t : Sem α} {Q Q' : α → Shared → Prop} {M : Model} {A : Around} {E : Value → Shared → Prop} {s : Shared} (h : wpAny M A t Q E s) (hQ : ∀ a s, Q a s → Q' a s) : wpAny M A t Q' E s := wpAny_mono h hQ fun _ _ x => x
end L2
namespace L2
open PySem PySem.Spec PyProof.Rows
section
variable {X : Cx}
noncomputable def tVar (i : Nat) : TE := fun σ H Q => ∃ v, σ[i]? = some (some v) ∧ Q v H
noncomputable def tC (v : V) : TE := fun _ H Q => Q v H
theorem pe_var {i : Nat} {x : Str} {pos : Pos} (hN : X.N[i]? = some x) (hv : Vis X.env.scope x) (hd : (x == ("__debug__" : Str)) = false := by decide) (hcd : (x == ("__classdict__" : Str)) = false := by decide) : PE X (.Name x pos) (tVar i) := by
 intro pins s σ H Q I h
 obtain ⟨v, e, h⟩ := h
 obtain ⟨m, hn, hl⟩ := I.loc
 obtain ⟨u, r, l⟩ := hl i x v hN e hv
 have fin : EP X pins σ Q u s := ⟨v, H, I, r, h⟩
 rcases l with ⟨hk, hm⟩ | ⟨hk, c, hc, hcell⟩
 · exact wpAny_Name (wpAny_loadName_local I.ok.kind hk hn hm fin) hd
 · rcases hk with hk | hk
   · exact wpAny_Name (wpAny_loadName_cell I.ok.kind hk hc hcell fin) hd
   · exact wpAny_Name (wpAny_loadName_free I.ok.kind hk hc hcell fin hcd) hd
theorem pe_int {i j pos} : PE X (.Constant (.int i) j pos) (tC (.int i)) := fun _ _ _ H _ I h => wpAny_Constant_int ⟨.int i, H, I.tok _, ⟨_, rfl⟩, h⟩
theorem pe_bl {b j pos} : PE X (.Constant (.bool b) j pos) (tC (.bl b)) := fun _ _ _ H _ I h => Constant_bool ⟨.bl b, H, I, rfl, h⟩
theorem pe_str {x j pos} : PE X (.Constant (.str x) j pos) (tC (.str x)) := fun _ _ _ H _ I h => Calls.Constant_str ⟨.str x, H, I.tok _, ⟨_, rfl⟩, h⟩
noncomputable def Gl (X : Cx) (x : Str) : Prop := X.env.kindOf x = some .globalImplicit
theorem ld_glob {E : Value → Shared → Prop} {pins : List (Addr × Obj)} {s : Shared} {σ : St} {H : Hp} {x : Str} {u : Value} {pos : Pos} {Q : Value → Shared → Prop} (I : Inv X pins σ H s) (hg : Gl X x) (hm : X.mg x = some u) (h : Q u s)
   (hd : (x == ("__debug__" : Str)) = false := by decide) : wpAny (model X.prog X.w) X.A (eval (.Name x pos) X.env) Q E s :=
 Calls.Name_function_global I.ok.kind hg (Calls.loadGlobal_global (by rw [I.ok.glob]; exact I.mod.glob.keeps I.bk) hm h) hd
theorem ld_blt {E : Value → Shared → Prop} {pins : List (Addr × Obj)} {s : Shared} {σ : St} {H : Hp} {x : Str} {u : Value} {pos : Pos} {Q : Value → Shared → Prop} (I : Inv X pins σ H s) (hg : Gl X x) (hm : X.mg x = none) (hv : bootBuiltins x = some u) (h : Q u s)
   (hn : x ≠ "__name__" := by decide) (hd : (x == ("__debug__" : Str)) = false := by decide) : wpAny (model X.prog X.w) X.A (eval (.Name x pos) X.env) Q E s := by
 obtain ⟨mb, h1, h2⟩ := I.mod.blt
 exact Calls.Name_function_global I.ok.kind hg (Calls.loadGlobal_builtin (by rw [I.ok.glob]; exact I.mod.glob.keeps I.bk) hm (by rw [I.ok.blt]; exact h1.keeps I.bk) ((h2 x hn).trans hv) h) hd
theorem pe_glob {x : Str} {v : V} {u : Value} {pos : Pos} (hg : Gl X x) (hm : X.mg x = some u) (r : RelV v u) (hd : (x == ("__debug__" : Str)) = false := by decide) : PE X (.Name x pos) (tC v) :=
 fun _ _ _ H _ I h => ld_glob I hg hm ⟨v, H, I, r, h⟩ hd
variable {a b : Expr} {ta tb : TE} {pos : Pos}
variable {tA tB' : TT} {rest : List Expr}
noncomputable def tAnd (t u : TT) : TT := fun σ H Q => t σ H fun c H1 => if c = true then u σ H1 Q else Q false H1
noncomputable def tOr (t u : TT) : TT := fun σ H Q => t σ H fun c H1 => if c = true then Q true H1 else u σ H1 Q
noncomputable def tNot (t : TT) : TT := fun σ H Q => t σ H fun c H1 => Q (!c) H1
theorem pw_and1 (ha : PT X a tA) : PW X (.BoolOp .And [a] pos) tA := by
 intro wh pins s σ H Q I h
 refine isTrue_and (thn (ha pins s σ H Q I h) fun c s1 e => ?_)
 cases c with
 | true => exact isTrue_and_nil e
 | false => exact e
theorem pw_or1 (ha : PT X a tA) : PW X (.BoolOp .Or [a] pos) tA := by
 intro wh pins s σ H Q I h
 refine isTrue_or (thn (ha pins s σ H Q I h) fun c s1 e => ?_)
 cases c with
 | false => exact isTrue_or_nil e
 | true => exact e
theorem pw_and (ha : PT X a tA) (hb : PW X (.BoolOp .And (b :: rest) pos) tB') : PW X (.BoolOp .And (a :: b :: rest) pos) (tAnd tA tB') := by
 intro wh pins s σ H Q I h
 refine isTrue_and (thn (ha pins s σ H _ I h) fun c s1 ⟨H1, I1, q1⟩ => ?_)
 cases c with
 | true => exact hb wh pins s1 σ H1 Q I1 q1
 | false => exact ⟨H1, I1, q1⟩
theorem pw_or (ha : PT X a tA) (hb : PW X (.BoolOp .Or (b :: rest) pos) tB') : PW X (.BoolOp .Or (a :: b :: rest) pos) (tOr tA tB') := by
 intro wh pins s σ H Q I h
 refine isTrue_or (thn (ha pins s σ H _ I h) fun c s1 ⟨H1, I1, q1⟩ => ?_)
 cases c with
 | true => exact ⟨H1, I1, q1⟩
 | false => exact hb wh pins s1 σ H1 Q I1 q1
theorem pt_not (ha : PT X a tA) : PT X (.UnaryOp .Not a pos) (tNot tA) := by
 intro pins s σ H Q I h
 exact isTrue_not (ha pins s σ H (fun c H1 => Q (!c) H1) I h)
noncomputable def tAndV (ta tb : TE) : TE := fun σ H Q => ta σ H fun x H1 => ∃ c, x = .bl c ∧ if c = true then tb σ H1 Q else Q (.bl false) H1
theorem pe_one {op} {t : TE} (h : PE X a t) : PE X (.BoolOp op [a] pos) t := fun pins s σ H Q I hw => BoolOp_one (h pins s σ H Q I hw)
theorem pe_and (ha : PE X a ta) (hb : PE X (.BoolOp .And (b :: rest) pos) tb) : PE X (.BoolOp .And (a :: b :: rest) pos) (tAndV ta tb) := by
 intro pins s σ H Q I h
 refine BoolOp_and (thn (ha pins s σ H _ I h) fun v s1 ⟨x, H1, I1, r1, q1⟩ => ?_)
 obtain ⟨c, rfl, q1⟩ := q1
 cases r1
 refine wpAny_truthy_bool ?_
 cases c with
 | true => exact hb pins s1 σ H1 Q I1 q1
 | false => exact ⟨.bl false, H1, I1, rfl, q1⟩
end
end L2
namespace L2
open PySem PySem.Spec PyProof.Rows
noncomputable def SqL (K : PySem.W.Frag) (H : Hp) (a : Addr) (xs : List V) : Prop :=
 Rd H a (.lst xs) ∨
   ∃ (o : Obj) (its : Array Value) (n : Nat), K.lookup a = some o ∧ o.cls = .type "list" ∧ o.dict = none ∧ o.data = .seq its n ∧ its.size ≤ sizeLine ∧ Vals xs its.toList
noncomputable def SqT (K : PySem.W.Frag) (H : Hp) (a : Addr) (xs : List V) : Prop :=
 Rd H a (.tup xs) ∨
   ∃ (o : Obj) (its : Array Value) (n : Nat), K.lookup a = some o ∧ o.cls = .type "tuple" ∧ o.dict = none ∧ o.data = .seq its n ∧ its.size ≤ sizeLine ∧ Vals xs its.toList
noncomputable def absV : Value → Option V
 | .none => some .non
 | .bool b => some (.bl b)
 | .int i _ => some (.int i)
 | .str x _ => some (.str x)
 | .bytes b _ => some (.byt b)
 | .float b _ => some (.flt b)
 | .ref a => some (.ref a)
 | .type n => some (.ty n)
 | _ => none
theorem RelV.abs {x : V} {u : Value} (r : RelV x u) : absV u = some x := by
 cases x with
 | non => cases r; rfl
 | bl _ => cases r; rfl
 | int _ => obtain ⟨t, rfl⟩ := r; rfl
 | str _ => obtain ⟨t, rfl⟩ := r; rfl
 | byt _ => obtain ⟨t, rfl⟩ := r; rfl
 | flt _ => obtain ⟨t, rfl⟩ := r; rfl
 | ref _ => cases r; rfl
 | ty _ => cases r; rfl
theorem RelV.inj {x y : V} {u : Value} (r : RelV x u) (q : RelV y u) : x = y := Option.some.inj (r.abs.symm.trans q.abs)
theorem Vals.inj : ∀ {xs ys : List V} {us : List Value}, Vals xs us → Vals ys us → xs = ys
 | _, _, _, .nil, .nil => rfl
 | _, _, _, .cons r t, .cons r' t' => by rw [r.inj r', Vals.inj t t']
section
variable {X : Cx} {pins : List (Addr × Obj)} {σ : St} {H : Hp} {s : Shared} {a : Addr} {xs ys : List V}
theorem SqL.of {K : PySem.W.Frag} (h : H a = some (.lst xs)) : SqL K H a xs := .inl (.inl h)
theorem SqT.of {K : PySem.W.Frag} (h : H a = some (.tup xs)) : SqT K H a xs := .inl (.inl h)
theorem Inv.list (I : Inv X pins σ H s) (h : SqL X.K H a xs) : ∃ its : List Value, Vals xs its ∧ PlainL s.heap a its.toArray ∧ xs.length ≤ sizeLine := by
 rcases h with h | ⟨o, its, n, hk, hc, hd, hs, hz, r⟩
 · obtain ⟨z, its, n, r, e⟩ := h.ok I.hok
   exact ⟨its, r, ⟨_, n, e, rfl, rfl, rfl⟩, z⟩
 · refine ⟨its.toList, r, ⟨o, n, I.kIn a o hk, hc, hd, by simpa using hs⟩, ?_⟩
   have e := r.length
   simp only [Array.length_toList] at e
   lia
theorem Inv.tuple (I : Inv X pins σ H s) (h : SqT X.K H a xs) : ∃ its : List Value, Vals xs its ∧ IsTup s.heap a its.toArray ∧ xs.length ≤ sizeLine := by
 rcases h with h | ⟨o, its, n, hk, hc, hd, hs, hz, r⟩
 · obtain ⟨z, its, r, p⟩ := h.ok I.hok
   exact ⟨its, r, p.t, z⟩
 · refine ⟨its.toList, r, ⟨o, I.kIn a o hk, hc, n, by simpa using hs⟩, ?_⟩
   have e := r.length
   simp only [Array.length_toList] at e
   lia
theorem Inv.tuple0 (I : Inv X pins σ H s) (h : SqT X.K H a xs) : ∃ its : List Value, Vals xs its ∧ IsTup0 s.heap a its.toArray ∧ xs.length ≤ sizeLine := by
 rcases h with h | ⟨o, its, n, hk, hc, hd, hs, hz, r⟩
 · obtain ⟨z, its, r, p⟩ := h.ok I.hok
   exact ⟨its, r, p, z⟩
 · refine ⟨its.toList, r, ⟨o, I.kIn a o hk, hc, hd, n, by simpa using hs⟩, ?_⟩
   have e := r.length
   simp only [Array.length_toList] at e
   lia
theorem Inv.list_inj (I : Inv X pins σ H s) (h : SqL X.K H a xs) (h' : SqL X.K H a ys) : xs = ys := by
 obtain ⟨its, r, ⟨o, n, e, _, _, d⟩, _⟩ := I.list h
 obtain ⟨its', r', ⟨o', n', e', _, _, d'⟩, _⟩ := I.list h'
 rw [e] at e'; cases e'
 rw [d] at d'
 injection d' with d1 _
 have : its = its' := by simpa using congrArg Array.toList d1
 subst this
 exact r.inj r'
theorem Inv.tuple_inj (I : Inv X pins σ H s) (h : SqT X.K H a xs) (h' : SqT X.K H a ys) : xs = ys := by
 obtain ⟨its, r, ⟨o, e, _, n, d⟩, _⟩ := I.tuple h
 obtain ⟨its', r', ⟨o', e', _, n', d'⟩, _⟩ := I.tuple h'
 rw [e] at e'; cases e'
 rw [d] at d'
 injection d' with d1 _
 have : its = its' := by simpa using congrArg Array.toList d1
 subst this
 exact r.inj r'
end
noncomputable abbrev Cx.wish (X : Cx) (E : Value → Shared → Prop) : Cx := { X with xe := E }
noncomputable abbrev Cx.nox (X : Cx) : Cx := X.wish fun _ _ => False
theorem Cx.Ok.wish {X : Cx} (ok : X.Ok) (E : Value → Shared → Prop) : (X.wish E).Ok :=
 ⟨ok.mod, ok.kind, ok.glob, ok.blt, ok.above, ok.inj, ok.has, ok.cab, ok.hd, ok.frames, ok.stk, ok.exf, ok.bs, ok.bsz, ok.noex, ok.exfs, ok.funs, ok.frf⟩
theorem Cx.Ok.unwish {X : Cx} {E : Value → Shared → Prop} (ok : (X.wish E).Ok) : X.Ok :=
 ⟨ok.mod, ok.kind, ok.glob, ok.blt, ok.above, ok.inj, ok.has, ok.cab, ok.hd, ok.frames, ok.stk, ok.exf, ok.bs, ok.bsz, ok.noex, ok.exfs, ok.funs, ok.frf⟩
section
variable {X : Cx} {pins : List (Addr × Obj)} {σ : St} {H : Hp} {s : Shared} {E : Value → Shared → Prop}
theorem Inv.wish (I : Inv X pins σ H s) (E : Value → Shared → Prop) : Inv (X.wish E) pins σ H s := ⟨I.ok.wish E, I.os, I.bare, I.base, I.loc, I.cell, I.free, I.freeC, I.pin, I.hok, I.len⟩
theorem Inv.unwish (I : Inv (X.wish E) pins σ H s) : Inv X pins σ H s := ⟨I.ok.unwish, I.os, I.bare, I.base, I.loc, I.cell, I.free, I.freeC, I.pin, I.hok, I.len⟩
theorem SP.unwish {D : Ends} {f : Flow} {s' : Shared} (h : SP (X.wish E) pins D f s') : SP X pins D f s' := by
 cases f with
 | next => obtain ⟨σ', H', I, q⟩ := h; exact ⟨σ', H', I.unwish, q⟩
 | brk => obtain ⟨σ', H', I, q⟩ := h; exact ⟨σ', H', I.unwish, q⟩
 | cont => obtain ⟨σ', H', I, q⟩ := h; exact ⟨σ', H', I.unwish, q⟩
 | ret u => obtain ⟨v, σ', H', I, r, q⟩ := h; exact ⟨v, σ', H', I.unwish, r, q⟩
theorem PT.nox {e : Expr} {t : TT} (h : PT X.nox e t) : PT X e t := fun pins s σ H Q I hw =>
 wpAny_mono (h pins s σ H Q (I.wish _) hw) (fun _ _ ⟨H', I', q⟩ => ⟨H', I'.unwish, q⟩) fun _ _ z => False.elim z
theorem PSs.nox {st : List Stmt} {t : TS} (h : PSs X.nox st t) : PSs X st t := fun pins s σ H D I hw =>
 wpAny_mono (h pins s σ H D (I.wish _) hw) (fun _ _ q => q.unwish) fun _ _ z => False.elim z
end
section
variable {X : Cx} {st : Stmt} {rest : List Stmt} {t u : TS} {e : Expr} {te : TE} {pos : Pos}
noncomputable def tNext : TS := fun D σ H => D.nx σ H
noncomputable def tSeq (t u : TS) : TS := fun D σ H => t { D with nx := u D } σ H
theorem pss_nil : PSs X [] tNext := fun _ _ σ H _ I h => wpAny_execs_nil ⟨σ, H, I, h⟩
theorem pss_cons (h1 : PS X st t) (h2 : PSs X rest u) : PSs X (st :: rest) (tSeq t u) := by
 intro pins s σ H D I h
 refine wpAny_execs_cons (thn (h1 pins s σ H { D with nx := u D } I h) fun f s1 q => ?_)
 cases f with
 | next =>
   obtain ⟨σ', H', I', q⟩ := q
   exact h2 pins s1 σ' H' D I' q
 | ret v => exact q
 | brk => exact q
 | cont => exact q
theorem pss_one (h1 : PS X st t) : PSs X [st] t := by
 intro pins s σ H D I h
 refine wpAny_execs_cons (thn (h1 pins s σ H D I h) fun f s1 q => ?_)
 cases f with
 | next => exact wpAny_execs_nil q
 | ret v => exact q
 | brk => exact q
 | cont => exact q
noncomputable def tBreak : TS := fun D σ H => D.bk σ H
theorem ps_break : PS X (.Break pos) tBreak := fun _ _ σ H _ I h => wpAny_Break ⟨σ, H, I, h⟩
theorem Inv.quiet {pins : List (Addr × Obj)} {σ : St} {H : Hp} {s : Shared} (I : Inv X pins σ H s) : interactive X.env = false := by simp [interactive, I.ok.kind]
noncomputable def tDrop (te : TE) : TS := fun D σ H => te σ H fun _ H1 => D.nx σ H1
theorem ps_expr (he : PE X e te) (hs : swapsWith e none pos.line X.env = pure false := by rfl) : PS X (.Expr e pos) (tDrop te) := by
 intro pins s σ H D I h
 exact wpAny_Expr_any (thn (he pins s σ H _ I h) fun v s1 ⟨x, H1, I1, r1, q1⟩ => ⟨σ, H1, I1, q1⟩) I.quiet hs
noncomputable def tRet (te : TE) : TS := fun D σ H => te σ H D.rt
theorem ps_ret (he : PE X e te) : PS X (.Return (some e) pos) (tRet te) := by
 intro pins s σ H D I h
 exact wpAny_Return_some (thn (he pins s σ H _ I h) fun v s1 ⟨x, H1, I1, r1, q1⟩ => ⟨x, σ, H1, I1, r1, q1⟩)
noncomputable def tIfS (c : TT) (t u : TS) : TS := fun D σ H => c σ H fun b H1 => if b = true then t D σ H1 else u D σ H1
theorem ps_if {c : Expr} {a b : List Stmt} {tc : TT} (hc : PT X c tc) (ha : PSs X a t) (hb : PSs X b u) : PS X (.If c a b pos) (tIfS tc t u) := by
 intro pins s σ H D I h
 refine wpAny_If (thn (hc pins s σ H _ I h) fun d s1 ⟨H1, I1, q1⟩ => ?_)
 cases d with
 | true => exact ha pins s1 σ H1 D I1 q1
 | false => exact hb pins s1 σ H1 D I1 q1
end
noncomputable abbrev TG := V → St → Hp → (St → Hp → Prop) → Prop
noncomputable def PG (X : Cx) (target : Expr) (t : TG) : Prop :=
 ∀ (pins : List (Addr × Obj)) (s : Shared) (σ : St) (H : Hp) (v : V) (u : Value) (Q : St → Hp → Prop), Inv X pins σ H s → RelV v u → t v σ H Q →
   wpAny (model X.prog X.w) X.A (assign target X.env u) (fun _ s' => ∃ σ' H', Inv X pins σ' H' s' ∧ Q σ' H') X.xe s
noncomputable abbrev TSet := V → V → V → Hp → (Hp → Prop) → Prop
noncomputable def PSet (X : Cx) (t : TSet) : Prop :=
 ∀ (pins : List (Addr × Obj)) (s : Shared) (σ : St) (H : Hp) (o i v : V) (ov iv u : Value) (Q : Hp → Prop), Inv X pins σ H s → RelV o ov → RelV i iv → RelV v u → t o i v H Q →
   wpAny (model X.prog X.w) X.A (setItem ov iv u) (fun _ s' => ∃ H', Inv X pins σ H' s' ∧ Q H') X.xe s
noncomputable abbrev TIp := V → V → Hp → VK → Prop
noncomputable def PIp (X : Cx) (op : Operator) (t : TIp) : Prop :=
 ∀ (pins : List (Addr × Obj)) (s : Shared) (σ : St) (H : Hp) (x y : V) (v u : Value) (Q : VK), Inv X pins σ H s → RelV x v → RelV y u → t x y H Q →
   wpAny (model X.prog X.w) X.A (inplaceOp op v u) (EP X pins σ Q) X.xe s
section
variable {X : Cx} {pos : Pos}
noncomputable def gName (i : Nat) : TG := fun v σ H Q => Q (σ.set i (some v)) H
theorem pg_name {i : Nat} {x : Str} (hN : X.N.Nodup) (hi : X.N[i]? = some x) (hx : Loc X.env.scope x) (hf : X.fn x = true ∨ X.env.scope.names.lookup x = some .local := by first | exact .inl rfl | exact .inr rfl | assumption) : PG X (.Name x pos) (gName i) := by
 intro pins s σ H v u Q I r h
 exact wpAny_assign_Name (store_ok I hN hi hx r (fun s' I' => ⟨_, H, I', h⟩) hf)
noncomputable def gSub (to ti : TE) (t : TSet) : TG := fun v σ H Q => to σ H fun o H1 => ti σ H1 fun i H2 => t o i v H2 fun H3 => Q σ H3
theorem pg_sub {o i : Expr} {to ti : TE} {t : TSet} (ho : PE X o to) (hi : PE X i ti) (hs : PSet X t)
   (ha : ∀ v, assign (.Subscript o i pos) X.env v = (do
     let ov ← holding [v] (eval o X.env)
     let iv ← holding [v, ov] (eval i X.env)
     standAt pos
     holding [v, ov, iv] (setItem ov iv v)
     release [v, ov, iv] []) := by intro _; rfl) : PG X (.Subscript o i pos) (gSub to ti t) := by
 intro pins s σ H v u Q I r h
 rw [ha]
 refine wpAny_bind (wpAny_holding (thn (ho pins s σ H _ I h) fun ov s1 ⟨x, H1, I1, r1, q1⟩ => ?_))
 refine wpAny_bind (wpAny_holding (thn (hi pins s1 σ H1 _ I1 q1) fun iv s2 ⟨y, H2, I2, r2, q2⟩ => ?_))
 refine wpAny_bind (wpAny_standAt (wpAny_bind (wpAny_holding (thn (hs pins s2 σ H2 x y v ov iv u _ I2 r1 r2 r q2) fun _ s3 ⟨H3, I3, q3⟩ => ?_))))
 exact wpAny_release ⟨σ, H3, I3, q3⟩
noncomputable def tAsg (te : TE) (g : TG) : TS := fun D σ H => te σ H fun x H1 => g x σ H1 D.nx
theorem ps_asg {tg e : Expr} {te : TE} {g : TG} (he : PE X e te) (hg : PG X tg g) (hs : swapsWithSole [tg] e pos.line X.env = pure false := by rfl) (hw : swappedStores [tg] e X.env = pure none := by rfl)
   (h1 : (assignEach [tg] X.env).map (·.2) = [assign tg X.env] := by rfl) : PS X (.Assign [tg] e pos) (tAsg te g) := by
 intro pins s σ H D I h
 refine wpAny_Assign_stores (thn (he pins s σ H _ I h) fun v s1 ⟨x, H1, I1, r1, q1⟩ => ?_) hs hw
 rw [h1]
 exact thn (hg pins s1 σ H1 x v _ I1 r1 q1) fun _ s2 q => q
theorem ps_set {i : Nat} {x : Str} {e : Expr} {te : TE} {pos' : Pos} (hN : X.N.Nodup) (hi : X.N[i]? = some x) (hx : Loc X.env.scope x) (he : PE X e te) (hs : swapsWith e (some (.Name x pos')) pos.line X.env = pure false := by rfl) (hf : X.fn x = true ∨ X.env.scope.names.lookup x = some .local := by first | exact .inl rfl | exact .inr rfl | assumption) :
   PS X (.Assign [.Name x pos'] e pos) (tAsg te (gName i)) := by
 intro pins s σ H D I h
 refine wpAny_Assign_Name (thn (he pins s σ H _ I h) fun v s1 ⟨y, H1, I1, r1, q1⟩ => ?_) hs
 exact store_ok I1 hN hi hx r1 (fun s2 I2 => ⟨_, H1, I2, q1⟩) hf
noncomputable def tAug (i : Nat) (te : TE) (ti : TIp) : TS := fun D σ H => ∃ x, σ[i]? = some (some x) ∧ te σ H fun y H1 => ti x y H1 fun z H2 => D.nx (σ.set i (some z)) H2
theorem ps_aug {i : Nat} {x : Str} {e : Expr} {te : TE} {op : Operator} {ti : TIp} {pos' : Pos} (hN : X.N.Nodup) (hi : X.N[i]? = some x) (hx : Loc X.env.scope x) (he : PE X e te) (ho : PIp X op ti) (hf : X.fn x = true ∨ X.env.scope.names.lookup x = some .local := by first | exact .inl rfl | exact .inr rfl | assumption) :
   PS X (.AugAssign (.Name x pos') op e pos) (tAug i te ti) := by
 intro pins s σ H D I h
 obtain ⟨v, e1, h⟩ := h
 obtain ⟨m, hn, hl⟩ := I.loc
 have vis : Vis X.env.scope x := by rcases hx with k | k; exact .inl k; exact .inr (.inl k)
 obtain ⟨u, r, l⟩ := hl i x v hi e1 vis
 refine wpAny_AugAssign_Name ?_
 have go : wpAny (model X.prog X.w) X.A (eval e X.env) (fun w s₂ => wpAny (model X.prog X.w) X.A (inplaceOp op u w) (fun r s₃ => wpAny (model X.prog X.w) X.A (storeName X.env x r) (fun _ => SP X pins D .next) X.xe s₃) X.xe s₂) X.xe s := by
   refine thn (he pins s σ H _ I h) fun w s1 ⟨y, H1, I1, r1, q1⟩ => ?_
   refine thn (ho pins s1 σ H1 v y u w _ I1 r r1 q1) fun z s2 ⟨zv, H2, I2, r2, q2⟩ => ?_
   exact store_ok I2 hN hi hx r2 (fun s3 I3 => ⟨_, H2, I3, q2⟩) hf
 rcases l with ⟨hk, hm⟩ | ⟨hk, c, hc, hcell⟩
 · exact wpAny_loadName_local I.ok.kind hk hn hm go
 · rcases hk with hk | hk
   · exact wpAny_loadName_cell I.ok.kind hk hc hcell go
   · rcases hx with k | k
     · have : X.env.scope.names.lookup x = some .free := hk
       rw [k] at this; cases this
     · have : X.env.scope.names.lookup x = some .free := hk
       rw [k] at this; cases this
noncomputable def ipI (f : Int → Int → Int) : TIp := fun x y H Q => ∃ i j, x = .int i ∧ y = .int j ∧ Q (.int (f i j)) H
theorem ip_add : PIp X .Add (ipI fun i j => i + j) := by
 intro pins s σ H x y v u Q I r1 r2 h
 obtain ⟨i, j, e1, e2, q⟩ := h
 subst e1; subst e2
 obtain ⟨t, rfl⟩ := r1
 obtain ⟨t', rfl⟩ := r2
 exact iadd_int ⟨.int _, H, I.tok _, ⟨_, rfl⟩, q⟩
theorem ip_sub : PIp X .Sub (ipI fun i j => i - j) := by
 intro pins s σ H x y v u Q I r1 r2 h
 obtain ⟨i, j, e1, e2, q⟩ := h
 subst e1; subst e2
 obtain ⟨t, rfl⟩ := r1
 obtain ⟨t', rfl⟩ := r2
 exact isub_int ⟨.int _, H, I.tok _, ⟨_, rfl⟩, q⟩
end
section
variable {X : Cx} {pos : Pos}
end
structure It where
 go : Nat → Hp → Prop
 yld : Nat → Hp → V → Hp → Prop
 stop : Nat → Hp → Prop
noncomputable def FpOk (X : Cx) (pins : List (Addr × Obj)) (H : Hp) (b : Addr) : Prop :=
 H b = none ∧ b ≠ X.env.locals ∧ b ∉ X.fs ∧ (b ∈ X.ex ∨ X.s₀.heap.objs.size ≤ b) ∧ (∀ x c, X.env.cells.lookup x = some c → c ≠ b) ∧ ∀ p ∈ X.pn ++ pins, p.1 ≠ b
theorem Inv.fpOk {X : Cx} {pins : List (Addr × Obj)} {σ : St} {H H' : Hp} {s : Shared} {b : Addr} (I : Inv X pins σ H s) (hb : s.heap.objs.size ≤ b) (hn : H' b = none) : FpOk X pins H' b := by
 refine ⟨hn, Nat.ne_of_gt (Nat.lt_of_lt_of_le I.lt hb), I.nofs hb, .inr (Nat.le_trans I.sz hb), fun x c e z => ?_, fun p hp z => ?_⟩
 · obtain ⟨v, q⟩ := I.cell x c e
   exact absurd (Nat.lt_of_lt_of_le q.lt (by rw [z]; exact hb)) (Nat.lt_irrefl _)
 · exact absurd (Nat.lt_of_lt_of_le (Heap.lt_size (I.pin p hp).1) (by rw [z]; exact hb)) (Nat.lt_irrefl _)
structure Turn (P : Program) (w : World) (K : PySem.W.Frag) (tg : Expr) (J : It) (fp : List Addr) (it : Addr) (tn : Nat → Heap → Prop) : Prop where
 mem : it ∈ fp
 obj : ∀ i h, tn i h → ∀ b ∈ fp, ∃ o, h.get? b = some o ∧ ∀ v, o.data ≠ .cell v
 keep : ∀ i h h', tn i h → (∀ b ∈ fp, ∀ o, h.get? b = some o → h'.get? b = some o) → tn i h'
 item : ∀ (X : Cx), X.prog = P → X.w = w → X.K = K → X.calm = true → ∀ (i : Nat) (pins : List (Addr × Obj)) (s : Shared) (σ : St) (H : Hp) (E : Value → Shared → Prop), Inv X pins σ H s → (∀ b ∈ fp, FpOk X pins H b) → tn i s.heap → J.go i H →
   wpAny (model P w) X.A (pyNext (.ref it)) (fun r s1 => ∃ u, r = some u ∧
     wpAny (model P w) X.A (letOwnedTupleGo tg (.ref it) u) (fun _ s2 => ∃ x H', Inv X pins σ H' s2 ∧ RelV x u ∧ J.yld i H x H' ∧ tn (i + 1) s2.heap ∧ ∀ b ∈ fp, H' b = none) E s1) E s
 done : ∀ (X : Cx), X.prog = P → X.w = w → X.K = K → X.calm = true → ∀ (i : Nat) (pins : List (Addr × Obj)) (s : Shared) (σ : St) (H : Hp) (E : Value → Shared → Prop), Inv X pins σ H s → (∀ b ∈ fp, FpOk X pins H b) → tn i s.heap → J.stop i H →
   wpAny (model P w) X.A (pyNext (.ref it)) (fun r s1 => r = none ∧ Inv X pins σ H s1) E s
 self : ∀ (A : Around) (i : Nat) (s : Shared) (Q : Value → Shared → Prop) (E : Value → Shared → Prop), tn i s.heap → Q (.ref it) s → wpAny (model P w) A (pyIter (.ref it)) Q E s
noncomputable abbrev TI := St → Hp → (It → Hp → Prop) → Prop
noncomputable def PIE (X : Cx) (pins : List (Addr × Obj)) (σ : St) (tg : Expr) (R : It → Hp → Prop) (itv : Value) (s2 : Shared) : Prop :=
 ∃ (it : Addr) (fp : List Addr) (tn : Nat → Heap → Prop) (J : It) (H' : Hp), itv = .ref it ∧ Inv X pins σ H' s2 ∧ Turn X.prog X.w X.K tg J fp it tn ∧ tn 0 s2.heap ∧ (∀ b ∈ fp, FpOk X pins H' b) ∧ R J H'
noncomputable def PI (X : Cx) (tg iter : Expr) (wi : TI) : Prop :=
 ∀ (pins : List (Addr × Obj)) (s : Shared) (σ : St) (H : Hp) (R : It → Hp → Prop), Inv X pins σ H s → wi σ H R →
   wpAny (model X.prog X.w) X.A (eval iter X.env) (fun v s1 => wpAny (model X.prog X.w) X.A (pyIter v) (PIE X pins σ tg R) X.xe s1) X.xe s
theorem go_of {M : Model} {A : Around} {E : Value → Shared → Prop} {s : Shared} {tg : Expr} {it : Addr} {u : Value} {o : Obj} {n : String} {vs : Array Value} {Q : Unit → Shared → Prop} (ho : s.heap.get? it = some o) (hc : o.cls = .type n) (hd : o.data = .fields vs)
   (hn : ["enumerate", "zip", "dict_itemiterator", "dict_reverseitemiterator", "odict_iterator", "itertools.zip_longest", "itertools.pairwise"].contains n = false) (hQ : Q () s) : wpAny M A (letOwnedTupleGo tg (.ref it) u) Q E s := by
 unfold letOwnedTupleGo
 cases tg <;> first
   | exact wpAny_pure hQ
   | (cases u <;> first
       | exact wpAny_pure hQ
       | (refine wpAny_bind (wpAny_load ho ?_)
          rw [hc, hd]
          show wpAny M A (if (["enumerate", "zip", "dict_itemiterator", "dict_reverseitemiterator", "odict_iterator", "itertools.zip_longest", "itertools.pairwise"].contains n && vs[0]? == some (rawInt _)) = true then _ else _) Q E s
          rw [if_neg (by intro h; rw [hn, Bool.false_and] at h; cases h)]
          exact wpAny_pure hQ))
noncomputable def Itl (K : PySem.W.Frag) (a : Addr) : It :=
 ⟨fun i H => ∃ xs x, SqL K H a xs ∧ xs[i]? = some x, fun i H x H' => H' = H ∧ ∀ xs, SqL K H a xs → xs[i]? = some x, fun i H => ∃ xs, SqL K H a xs ∧ xs.length ≤ i⟩
noncomputable def Itt (K : PySem.W.Frag) (a : Addr) : It :=
 ⟨fun i H => ∃ xs x, SqT K H a xs ∧ xs[i]? = some x, fun i H x H' => H' = H ∧ ∀ xs, SqT K H a xs → xs[i]? = some x, fun i H => ∃ xs, SqT K H a xs ∧ xs.length ≤ i⟩
noncomputable def Itr (lo : Int) (n : Nat) : It := ⟨fun i _ => i < n, fun i H x H' => H' = H ∧ x = .int (lo + i), fun i _ => n ≤ i⟩
theorem turn_list {P : Program} {w : World} {K : PySem.W.Frag} {tg : Expr} (a it : Addr) : Turn P w K tg (Itl K a) [it] it (fun i h => h.IsListIter it a i) where
 mem := by simp
 obj := fun i h st b hb => by
   have e : b = it := by simpa using hb
   subst e
   obtain ⟨o, e, c, d⟩ := st
   exact ⟨o, e, fun v z => by rw [d] at z; cases z⟩
 keep := fun i h h' st k => st.at fun o e => k it (by simp) o e
 item := by
   intro X hP hw hK hc i pins s σ H E I hf st hg
   subst hP hw hK
   obtain ⟨xs, x, hq, hx⟩ := hg
   obtain ⟨its, rv, p, hz⟩ := I.list hq
   obtain ⟨u, hu, ru⟩ := rv.get hx
   obtain ⟨f0, f1, f2, f3, f4, f5⟩ := hf it (by simp)
   refine wpAny_pyNext_list_item st p.isList (x := u) (by simpa using hu) fun h' st' sb => ?_
   have I1 : Inv X pins σ H { s with heap := h' } := I.turned (t' := s.toks) (fun b o hb e => (sb.2 b hb).trans e) f0 f1 f3 f4 f5
   obtain ⟨o, e, c, d⟩ := id st'
   exact ⟨u, rfl, go_of (s := { s with heap := h' }) e c d (by decide) ⟨x, H, I1, ru, ⟨rfl, fun ys hy => by rw [I.list_inj hy hq]; exact hx⟩, st', fun b hb => (hf b hb).1⟩⟩
 done := by
   intro X hP hw hK hc i pins s σ H E I hf st hg
   subst hP hw hK
   obtain ⟨xs, hq, hx⟩ := hg
   obtain ⟨its, rv, p, hz⟩ := I.list hq
   obtain ⟨f0, f1, f2, f3, f4, f5⟩ := hf it (by simp)
   have hl := rv.length
   exact wpAny_pyNext_list_end (I.ok.hd hc) st p.isList (by simp; lia) fun h' eb => ⟨rfl, I.turned (t' := s.toks) (fun b o hb e => eb b o hb e) f0 f1 f3 f4 f5⟩
 self := fun _ _ _ _ _ st h => wpAny_pyIter_listiter st h
theorem turn_tuple {P : Program} {w : World} {K : PySem.W.Frag} {tg : Expr} (a it : Addr) : Turn P w K tg (Itt K a) [it] it (fun i h => h.IsTupleIter it a i) where
 mem := by simp
 obj := fun i h st b hb => by
   have e : b = it := by simpa using hb
   subst e
   obtain ⟨o, e, c, d⟩ := st
   exact ⟨o, e, fun v z => by rw [d] at z; cases z⟩
 keep := fun i h h' st k => st.at fun o e => k it (by simp) o e
 item := by
   intro X hP hw hK hc i pins s σ H E I hf st hg
   subst hP hw hK
   obtain ⟨xs, x, hq, hx⟩ := hg
   obtain ⟨its, rv, p, hz⟩ := I.tuple hq
   obtain ⟨u, hu, ru⟩ := rv.get hx
   obtain ⟨f0, f1, f2, f3, f4, f5⟩ := hf it (by simp)
   refine wpAny_pyNext_tuple_item st (show s.heap.IsTuple a its.toArray from p) (x := u) (by simpa using hu) fun h' st' sb => ?_
   have I1 : Inv X pins σ H { s with heap := h' } := I.turned (t' := s.toks) (fun b o hb e => (sb.2 b hb).trans e) f0 f1 f3 f4 f5
   obtain ⟨o, e, c, d⟩ := id st'
   exact ⟨u, rfl, go_of (s := { s with heap := h' }) e c d (by decide) ⟨x, H, I1, ru, ⟨rfl, fun ys hy => by rw [I.tuple_inj hy hq]; exact hx⟩, st', fun b hb => (hf b hb).1⟩⟩
 done := by
   intro X hP hw hK hc i pins s σ H E I hf st hg
   subst hP hw hK
   obtain ⟨xs, hq, hx⟩ := hg
   obtain ⟨its, rv, p, hz⟩ := I.tuple hq
   obtain ⟨f0, f1, f2, f3, f4, f5⟩ := hf it (by simp)
   have hl := rv.length
   exact wpAny_pyNext_tuple_end (I.ok.hd hc) st (show s.heap.IsTuple a its.toArray from p) (by simp; lia) fun h' eb => ⟨rfl, I.turned (t' := s.toks) (fun b o hb e => eb b o hb e) f0 f1 f3 f4 f5⟩
 self := fun _ _ _ _ _ st h => wpAny_pyIter_tupleiter st h
theorem turn_range {P : Program} {w : World} {K : PySem.W.Frag} {tg : Expr} (it : Addr) (lo : Int) (n : Nat) : Turn P w K tg (Itr lo n) [it] it (fun i h => IsRangeIter h it (lo + (i : Nat) * 1) ((n : Int) - (i : Nat)) 1) where
 mem := by simp
 obj := fun i h st b hb => by
   have e : b = it := by simpa using hb
   subst e
   exact ⟨_, st, fun v z => by
     have z' : Data.fields _ = Data.cell v := z
     cases z'⟩
 keep := fun i h h' st k => k it (by simp) _ st
 item := by
   intro X hP hw hK hc i pins s σ H E I hf st hg
   subst hP hw hK
   obtain ⟨f0, f1, f2, f3, f4, f5⟩ := hf it (by simp)
   have W := Walks.range (prog := X.prog) (w := X.w) (I.ok.hd hc) it lo 1 n
   refine W.item i s _ _ hg st fun v h' tk hv st' kk => ?_
   obtain ⟨t, rfl⟩ := hv
   have I1 : Inv X pins σ H { s with heap := h', toks := tk } := I.turned (fun b o hb e => kk b o (by simpa using hb) e) f0 f1 f3 f4 f5
   refine ⟨_, rfl, go_of (s := { s with heap := h', toks := tk }) (n := "range_iterator") st' rfl rfl (by decide) ⟨.int (lo + i), H, I1, ⟨t, ?_⟩, ⟨rfl, rfl⟩, st', fun b hb => (hf b hb).1⟩⟩
   rw [Int.mul_one]
 done := by
   intro X hP hw hK hc i pins s σ H E I hf st hg
   subst hP hw hK
   obtain ⟨f0, f1, f2, f3, f4, f5⟩ := hf it (by simp)
   exact wpAny_pyNext_range_end (I.ok.hd hc) st (by have : n ≤ i := hg; lia) fun h' eb => ⟨rfl, I.turned (t' := s.toks) (fun b o hb e => eb b o hb e) f0 f1 f3 f4 f5⟩
 self := fun _ _ _ _ _ st h => wpAny_pyIter_rangeiter st h
end L2
namespace L2
open PySem PySem.Spec PyProof.Rows
section
variable {X : Cx} {tg : Expr}
theorem range_it {pins : List (Addr × Obj)} {σ : St} {H : Hp} {s : Shared} {R : It → Hp → Prop} {E : Value → Shared → Prop} {lo hi : Int} {t u v : Tok} {tk : Nat} (I : Inv X pins σ H s) (h1 : -(2 ^ 62) ≤ lo) (h2 : lo < 2 ^ 62) (h3 : -(2 ^ 62) ≤ hi) (h4 : hi < 2 ^ 62)
   (q : R (Itr lo (hi - lo).toNat) H) : wpAny (model X.prog X.w) X.A (pyIter (.ref s.heap.objs.size)) (PIE X pins σ tg R) E { s with heap := s.heap.push { cls := .type "range", data := .fields #[.int lo t, .int hi u, .int 1 v] }, toks := tk } := by
 refine wpAny_pyIter_range (IsRange.new ..) (small_one h1 h2 h3 h4) ?_
 have I1 : Inv X pins σ H { s with heap := s.heap.push { cls := .type "range", data := .fields #[.int lo t, .int hi u, .int 1 v] }, toks := tk } := I.kept fun b o e => Heap.get?_push_of_some _ e
 refine ⟨(s.heap.push { cls := .type "range", data := .fields #[.int lo t, .int hi u, .int 1 v] }).objs.size, [(s.heap.push { cls := .type "range", data := .fields #[.int lo t, .int hi u, .int 1 v] }).objs.size], _, _, H, rfl,
   I1.kept (t' := tk) fun b o e => Heap.get?_push_of_some _ e, turn_range _ lo (hi - lo).toNat, ?_, fun b hb => ?_, q⟩
 · have e1 : lo + ((0 : Nat) : Int) * 1 = lo := by simp
   have e2 : (((hi - lo).toNat : Nat) : Int) - ((0 : Nat) : Int) = Builtin.Range.rangeSize lo hi 1 := by rw [rangeSize_one]; split <;> lia
   show IsRangeIter _ _ (lo + ((0 : Nat) : Int) * 1) ((((hi - lo).toNat : Nat) : Int) - ((0 : Nat) : Int)) 1
   rw [e1, e2]
   exact Heap.get?_push_size _ rfl
 · have e : b = (s.heap.push { cls := .type "range", data := .fields #[.int lo t, .int hi u, .int 1 v] }).objs.size := by simpa using hb
   subst e
   exact I1.fpOk (Nat.le_refl _) (I1.hok.fresh (Nat.le_refl _))
noncomputable def iRng1 (ta : TA) : TI := fun σ H R => ta σ H fun vs H1 => ∃ j : Int, vs = [.int j] ∧ -(2 ^ 62) ≤ j ∧ j < 2 ^ 62 ∧ R (Itr 0 j.toNat) H1
noncomputable def iRng2 (ta : TA) : TI := fun σ H R => ta σ H fun vs H1 => ∃ i j : Int, vs = [.int i, .int j] ∧ (-(2 ^ 62) ≤ i ∧ i < 2 ^ 62 ∧ -(2 ^ 62) ≤ j ∧ j < 2 ^ 62) ∧ R (Itr i (j - i).toNat) H1
theorem pi_range1 {a : Expr} {ta : TA} {p pos : Pos} (hg : Gl X "range") (hm : X.mg "range" = none) (ha : PA X [a] ta) (hs : starEach [a] X.env = [(false, eval a X.env)] := by rfl) : PI X tg (.Call (.Name "range" p) [a] [] pos) (iRng1 ta) := by
 intro pins s σ H R I h
 refine Call_ (ld_blt I hg hm boot_range (PyProof.Rows.callWith_type1 (thn (ha pos pins s σ H _ I h) fun us s1 ⟨vs, H1, I1, r1, q1⟩ => ?_) hs rfl))
 obtain ⟨j, e, q1, q2, q⟩ := q1
 subst e
 cases r1 with
 | cons r rr =>
   cases rr
   obtain ⟨t, rfl⟩ := r
   exact call_range_1 (range_it I1 (by lia) (by lia) q1 q2 (by simpa using q))
theorem pi_range2 {a b : Expr} {ta : TA} {p pos : Pos} (hg : Gl X "range") (hm : X.mg "range" = none) (ha : PA X [a, b] ta) (hs : starEach [a, b] X.env = [(false, eval a X.env), (false, eval b X.env)] := by rfl) (hs2 : starEach [b] X.env = [(false, eval b X.env)] := by rfl) :
   PI X tg (.Call (.Name "range" p) [a, b] [] pos) (iRng2 ta) := by
 intro pins s σ H R I h
 refine Call_ (ld_blt I hg hm boot_range (PyProof.Rows.callWith_type1 (thn (ha pos pins s σ H _ I h) fun us s1 ⟨vs, H1, I1, r1, q1⟩ => ?_) (by rw [hs, hs2]) (by rw [hs2]; rfl)))
 obtain ⟨i, j, e, ⟨q1, q2, q3, q4⟩, q⟩ := q1
 subst e
 cases r1 with
 | cons r rr =>
   cases rr with
   | cons r' rr =>
     cases rr
     obtain ⟨t, rfl⟩ := r
     obtain ⟨t', rfl⟩ := r'
     exact call_range_2 (range_it I1 q1 q2 q3 q4 q)
noncomputable def tFor (wi : TI) (g : TG) (tb : TS) : TS := fun D σ H => wi σ H fun J H1 => ∃ W : Nat → Nat → St → Hp → Prop, (∃ m, W 0 m σ H1) ∧ ∀ i m σ H, W i m σ H →
 (J.stop i H ∧ D.nx σ H) ∨ (J.go i H ∧ ∃ N : St → Hp → Prop, (∀ σ' H', N σ' H' → ∃ m', m' < m ∧ W (i + 1) m' σ' H') ∧ ∀ x H', J.yld i H x H' → g x σ H' fun σ2 H2 => tb { D with nx := N, ct := N, bk := D.nx } σ2 H2)
noncomputable def pinsAt (fp : List Addr) (h : Heap) : List (Addr × Obj) := fp.filterMap fun b => (h.get? b).map fun o => (b, o)
theorem mem_pinsAt {fp : List Addr} {h : Heap} {b : Addr} {o : Obj} (hb : b ∈ fp) (e : h.get? b = some o) : (b, o) ∈ pinsAt fp h := List.mem_filterMap.mpr ⟨b, hb, by rw [e]; rfl⟩
theorem of_pinsAt {fp : List Addr} {h : Heap} {p : Addr × Obj} (hp : p ∈ pinsAt fp h) : p.1 ∈ fp ∧ h.get? p.1 = some p.2 := by
 obtain ⟨b, hb, e⟩ := List.mem_filterMap.mp hp
 cases q : h.get? b with
 | none => rw [q] at e; cases e
 | some o =>
   rw [q] at e
   have e' : (b, o) = p := Option.some.inj e
   subst e'
   exact ⟨hb, q⟩
theorem Inv.pinned {pins : List (Addr × Obj)} {σ : St} {H : Hp} {s : Shared} {fp : List Addr} (I : Inv X pins σ H s) (hf : ∀ b ∈ fp, FpOk X pins H b) (ho : ∀ b ∈ fp, ∃ o, s.heap.get? b = some o ∧ ∀ v, o.data ≠ .cell v) : Inv X (pins ++ pinsAt fp s.heap) σ H s :=
 I.pins_of fun p hp => (List.mem_append.mp hp).elim (fun z => I.pin p (List.mem_append_right _ z)) fun z => by
   obtain ⟨hb, e⟩ := of_pinsAt z
   obtain ⟨f0, f1, f2, _⟩ := hf p.1 hb
   obtain ⟨o, e', d⟩ := ho p.1 hb
   rw [e] at e'; cases e'
   exact ⟨e, f0, f1, f2, d⟩
theorem Inv.unpinned {pins pl : List (Addr × Obj)} {σ : St} {H : Hp} {s : Shared} (I : Inv X (pins ++ pl) σ H s) : Inv X pins σ H s := I.pins_of fun p hp => I.pin p (List.mem_append_right _ (List.mem_append_left _ hp))
theorem ps_for {iter : Expr} {body : List Stmt} {wi : TI} {g : TG} {tb : TS} {pos : Pos} (hp : PassesOwn (model X.prog X.w) X.A X.env X.xe) (hc : X.calm = true) (hi : PI X tg iter wi) (hg : PG X tg g) (hb : PSs X body tb)
   (hs : ∀ x, foldedSetIterable iter X.env x = pure x := by intro _; rfl) : PS X (.For tg iter body [] pos) (tFor wi g tb) := by
 intro pins s σ H D I h
 refine wpAny_For (thn (hi pins s σ H _ I h) fun v s1 h1 => thn h1 fun itv s2 h2 => ?_) hs
 obtain ⟨it, fp, tn, J, H2, e, I2, T, st2, f2, W, ⟨m0, w0⟩, turn⟩ := h2
 subst e
 -- what stays true of the iterator's objects through the loop
 have stat : ∀ {H' : Hp}, (∀ b ∈ fp, H' b = none) → ∀ b ∈ fp, FpOk X pins H' b := fun hn b hb => ⟨hn b hb, (f2 b hb).2⟩
 refine codeAny_forLoop_any (fun n s' => ∃ i σ' H', Inv X pins σ' H' s' ∧ tn i s'.heap ∧ (∀ b ∈ fp, H' b = none) ∧ W i n σ' H') ?_ m0 ⟨0, σ, H2, I2, st2, fun b hb => (f2 b hb).1, w0⟩
 rintro n s3 ⟨i, σ3, H3, I3, st3, fr3, w3⟩
 rcases turn i n σ3 H3 w3 with ⟨stop, qn⟩ | ⟨go, N, hN, step⟩
 · refine wpAny_passesOwn hp (thn (T.done X rfl rfl rfl hc i pins s3 σ3 H3 X.xe I3 (stat fr3) st3 stop) fun r s4 ⟨hr, I4⟩ => ?_)
   subst hr
   exact wpAny_execs_nil ⟨σ3, H3, I4, qn⟩
 · refine wpAny_passesOwn hp (thn (T.item X rfl rfl rfl hc i pins s3 σ3 H3 X.xe I3 (stat fr3) st3 go) fun r s4 ⟨u, hr, h4⟩ => ?_)
   subst hr
   refine wpAny_passesOwn hp (thn h4 fun _ s5 ⟨x, H5, I5, r5, y5, st5, fr5⟩ => ?_)
   have I5' := I5.pinned (stat fr5) (T.obj _ _ st5)
   refine wpAny_passesOwn hp (thn (hg _ s5 σ3 H5 x u _ I5' r5 (step x H5 y5)) fun _ s6 ⟨σ6, H6, I6, q6⟩ => ?_)
   refine wpAny_passesOwn hp (thn (hb _ s6 σ6 H6 _ I6 q6) fun f s7 q7 => ?_)
   have again : ∀ {σ7 : St} {H7 : Hp}, Inv X (pins ++ pinsAt fp s5.heap) σ7 H7 s7 → N σ7 H7 → ∃ m, m < n ∧ ∃ i σ' H', Inv X pins σ' H' s7 ∧ tn i s7.heap ∧ (∀ b ∈ fp, H' b = none) ∧ W i m σ' H' := fun {σ7 H7} I7 n7 => by
     obtain ⟨m', hm, w7⟩ := hN σ7 H7 n7
     refine ⟨m', hm, i + 1, σ7, H7, I7.unpinned, T.keep _ _ _ st5 fun b hb o e => (I7.pin (b, o) (List.mem_append_right _ (List.mem_append_right _ (mem_pinsAt hb e)))).1, fun b hb => ?_, w7⟩
     obtain ⟨o, e, d⟩ := T.obj _ _ st5 b hb
     exact (I7.pin (b, o) (List.mem_append_right _ (List.mem_append_right _ (mem_pinsAt hb e)))).2.1
   cases f with
   | next => obtain ⟨σ7, H7, I7, n7⟩ := q7; exact again I7 n7
   | cont => obtain ⟨σ7, H7, I7, n7⟩ := q7; exact again I7 n7
   | brk => obtain ⟨σ7, H7, I7, q7⟩ := q7; exact ⟨σ7, H7, I7.unpinned, q7⟩
   | ret v => obtain ⟨x7, σ7, H7, I7, r7, q7⟩ := q7; exact ⟨x7, σ7, H7, I7.unpinned, r7, q7⟩
end
end L2
namespace L2
open PySem PySem.Spec PyProof.Rows
noncomputable abbrev R2 := V → V → Hp → VK → Prop
noncomputable def OpR (X : Cx) (f : Value → Value → Sem Value) (r : R2) : Prop :=
 ∀ (pins : List (Addr × Obj)) (s : Shared) (σ : St) (H : Hp) (x y : V) (v u : Value) (Q : VK), Inv X pins σ H s → RelV x v → RelV y u → r x y H Q →
   wpAny (model X.prog X.w) X.A (f v u) (EP X pins σ Q) X.xe s
noncomputable def UnR (X : Cx) (f : Value → Sem Value) (r : V → Hp → VK → Prop) : Prop :=
 ∀ (pins : List (Addr × Obj)) (s : Shared) (σ : St) (H : Hp) (x : V) (v : Value) (Q : VK), Inv X pins σ H s → RelV x v → r x H Q →
   wpAny (model X.prog X.w) X.A (f v) (EP X pins σ Q) X.xe s
noncomputable def CallR (X : Cx) (f : Value) (r : List V → Hp → VK → Prop) : Prop :=
 ∀ (pins : List (Addr × Obj)) (s : Shared) (σ : St) (H : Hp) (xs : List V) (us : List Value) (Q : VK), Inv X pins σ H s → Vals xs us → r xs H Q →
   wpAny (model X.prog X.w) X.A (call f us) (EP X pins σ Q) X.xe s
noncomputable def TruR (X : Cx) (r : V → Hp → (Bool → Hp → Prop) → Prop) : Prop :=
 ∀ (pins : List (Addr × Obj)) (s : Shared) (σ : St) (H : Hp) (x : V) (v : Value) (Q : Bool → Hp → Prop), Inv X pins σ H s → RelV x v → r x H Q →
   wpAny (model X.prog X.w) X.A (truthy v) (TP X pins σ Q) X.xe s
noncomputable def tOp (r : R2) (ta tb : TE) : TE := fun σ H Q => ta σ H fun x H1 => tb σ H1 fun y H2 => r x y H2 Q
noncomputable def tUn (r : V → Hp → VK → Prop) (ta : TE) : TE := fun σ H Q => ta σ H fun x H1 => r x H1 Q
noncomputable def rI (C : Int → Int → Prop) (g : Int → Int → V) : R2 := fun x y H Q => ∃ i j, x = .int i ∧ y = .int j ∧ C i j ∧ Q (g i j) H
noncomputable def rI0 (g : Int → Int → V) : R2 := fun x y H Q => ∃ i j, x = .int i ∧ y = .int j ∧ Q (g i j) H
noncomputable def rU (g : Int → V) : V → Hp → VK → Prop := fun x H Q => ∃ i, x = .int i ∧ Q (g i) H
section
variable {X : Cx} {a b c : Expr} {ta tb tc : TE} {pos : Pos}
theorem binT (ha : PE X a ta) (hb : PE X b tb) {pins : List (Addr × Obj)} {s : Shared} {σ : St} {H : Hp} {R : V → V → Hp → Prop} (I : Inv X pins σ H s)
   (h : ta σ H fun x H1 => tb σ H1 fun y H2 => R x y H2) {Q : Value → Shared → Prop} {f : Value → Value → Sem Value}
   (hf : ∀ v u s2 x y H2, Inv X pins σ H2 s2 → RelV x v → RelV y u → R x y H2 → wpAny (model X.prog X.w) X.A (f v u) Q X.xe s2) :
   wpAny (model X.prog X.w) X.A (eval a X.env) (fun v s₁ => wpAny (model X.prog X.w) X.A (eval b X.env) (fun u s₂ => wpAny (model X.prog X.w) X.A (f v u) Q X.xe s₂) X.xe s₁) X.xe s := by
 refine thn (ha pins s σ H _ I h) fun v s1 ⟨x, H1, I1, r1, q1⟩ => ?_
 refine thn (hb pins s1 σ H1 _ I1 q1) fun u s2 ⟨y, H2, I2, r2, q2⟩ => ?_
 exact hf v u s2 x y H2 I2 r1 r2 q2
theorem pe_op {op : Operator} {r : R2} (ho : OpR X (binaryOp op) r) (ha : PE X a ta) (hb : PE X b tb) : PE X (.BinOp a op b pos) (tOp r ta tb) := by
 intro pins s σ H Q I h
 exact wpAny_BinOp (binT ha hb I h fun v u s2 x y H2 I2 rx ry q => ho pins s2 σ H2 x y v u Q I2 rx ry q)
theorem pe_un {op : UnaryOp} {r : V → Hp → VK → Prop} (ho : UnR X (unaryOp op) r) (ha : PE X a ta) : PE X (.UnaryOp op a pos) (tUn r ta) := by
 intro pins s σ H Q I h
 exact UnaryOp_ (thn (ha pins s σ H _ I h) fun v s1 ⟨x, H1, I1, r1, q1⟩ => ho pins s1 σ H1 x v Q I1 r1 q1)
theorem opI {f : Value → Value → Sem Value} {C : Int → Int → Prop} {g : Int → Int → Int}
   (rule : ∀ (i j : Int) (t u : Tok) (s : Shared) (Q : Value → Shared → Prop) (E : Value → Shared → Prop), C i j → Q (.int (g i j) s.toks) { s with toks := s.toks + 1 } → wpAny (model X.prog X.w) X.A (f (.int i t) (.int j u)) Q E s) :
   OpR X f (rI C fun i j => .int (g i j)) := by
 intro pins s σ H x y v u Q I rx ry h
 obtain ⟨i, j, rfl, rfl, hc, q⟩ := h
 obtain ⟨t, rfl⟩ := rx
 obtain ⟨t', rfl⟩ := ry
 exact rule i j t t' s _ _ hc ⟨.int (g i j), H, I.tok _, ⟨_, rfl⟩, q⟩
theorem opI0 {f : Value → Value → Sem Value} {g : Int → Int → Int}
   (rule : ∀ (i j : Int) (t u : Tok) (s : Shared) (Q : Value → Shared → Prop) (E : Value → Shared → Prop), Q (.int (g i j) s.toks) { s with toks := s.toks + 1 } → wpAny (model X.prog X.w) X.A (f (.int i t) (.int j u)) Q E s) :
   OpR X f (rI0 fun i j => .int (g i j)) := by
 intro pins s σ H x y v u Q I rx ry h
 obtain ⟨i, j, rfl, rfl, q⟩ := h
 obtain ⟨t, rfl⟩ := rx
 obtain ⟨t', rfl⟩ := ry
 exact rule i j t t' s _ _ ⟨.int (g i j), H, I.tok _, ⟨_, rfl⟩, q⟩
theorem opB0 {f : Value → Value → Sem Value} {g : Int → Int → Bool}
   (rule : ∀ (i j : Int) (t u : Tok) (s : Shared) (Q : Value → Shared → Prop) (E : Value → Shared → Prop), Q (.bool (g i j)) s → wpAny (model X.prog X.w) X.A (f (.int i t) (.int j u)) Q E s) :
   OpR X f (rI0 fun i j => .bl (g i j)) := by
 intro pins s σ H x y v u Q I rx ry h
 obtain ⟨i, j, rfl, rfl, q⟩ := h
 obtain ⟨t, rfl⟩ := rx
 obtain ⟨t', rfl⟩ := ry
 exact rule i j t t' s _ _ ⟨.bl (g i j), H, I, rfl, q⟩
noncomputable def CPow (i j : Int) : Prop := 0 ≤ j ∧ j ≤ 1000000 ∧ i.natAbs < 2 ^ 64
noncomputable def CMul (i j : Int) : Prop := (-(2 ^ 64) < i ∧ i < 2 ^ 64) ∨ (-(2 ^ 64) < j ∧ j < 2 ^ 64)
theorem CMul.ok {i j : Int} (h : CMul i j) : IntMulOk i j := by
 rcases h with ⟨h1, h2⟩ | ⟨h1, h2⟩
 · exact .of_left (intBits_le_64 h1 h2)
 · exact .of_right (intBits_le_64 h1 h2)
theorem op_add : OpR X (binaryOp .Add) (rI0 fun i j => .int (i + j)) := opI0 fun _ _ _ _ _ _ _ q => add_int q
theorem op_sub : OpR X (binaryOp .Sub) (rI0 fun i j => .int (i - j)) := opI0 fun _ _ _ _ _ _ _ q => sub_int q
theorem op_mul : OpR X (binaryOp .Mult) (rI CMul fun i j => .int (i * j)) := opI fun _ _ _ _ _ _ _ hc q => mul_int q hc.ok
theorem op_mod : OpR X (binaryOp .Mod) (rI (fun _ j => 0 < j) fun i j => .int (i % j)) := opI fun i j _ _ _ _ _ hc q => by
 have h1 : (0 : Int) < j := hc
 exact mod_int' (by lia) (by rw [Int.fmod_eq_emod_of_nonneg i (by lia)]; exact q)
theorem op_pow : OpR X (binaryOp .Pow) (rI CPow fun i j => .int (i ^ j.toNat)) := opI fun _ _ _ _ _ _ _ hc q => pow_int_small hc.1 hc.2.1 hc.2.2 q
theorem unI {f : Value → Sem Value} {g : Int → Int}
   (rule : ∀ (i : Int) (t : Tok) (s : Shared) (Q : Value → Shared → Prop) (E : Value → Shared → Prop), Q (.int (g i) s.toks) { s with toks := s.toks + 1 } → wpAny (model X.prog X.w) X.A (f (.int i t)) Q E s) :
   UnR X f (rU fun i => .int (g i)) := by
 intro pins s σ H x v Q I rx h
 obtain ⟨i, rfl, q⟩ := h
 obtain ⟨t, rfl⟩ := rx
 exact rule i t s _ _ ⟨.int (g i), H, I.tok _, ⟨_, rfl⟩, q⟩
theorem un_neg : UnR X (unaryOp .USub) (rU fun i => .int (-i)) := unI fun _ _ _ _ _ q => neg_int q
end
section
variable {X : Cx} {a b c : Expr} {ta tb tc : TE} {pos : Pos}
theorem op_lt : OpR X (compareOp .Lt) (rI0 fun i j => .bl (decide (i < j))) := opB0 fun _ _ _ _ _ _ _ q => lt_int q
theorem op_le : OpR X (compareOp .LtE) (rI0 fun i j => .bl (decide (i ≤ j))) := opB0 fun _ _ _ _ _ _ _ q => le_int q
theorem op_gt : OpR X (compareOp .Gt) (rI0 fun i j => .bl (decide (j < i))) := opB0 fun _ _ _ _ _ _ _ q => gt_int q
theorem op_ge : OpR X (compareOp .GtE) (rI0 fun i j => .bl (decide (j ≤ i))) := opB0 fun _ _ _ _ _ _ _ q => ge_int q
theorem nomark (b : Expr) {op : CmpOp} (h : op ≠ .In := by decide) (h2 : op ≠ .NotIn := by decide) : behindInMarks op b = false := by
 have e1 : (op == CmpOp.In) = false := by cases op <;> first | rfl | exact absurd rfl h
 have e2 : (op == CmpOp.NotIn) = false := by cases op <;> first | rfl | exact absurd rfl h2
 cases b <;> simp [behindInMarks, e1, e2]
theorem pe_cmpR {op : CmpOp} {r : R2} (ho : OpR X (compareOp op) r) (ha : PE X a ta) (hb : PE X b tb) (hm : behindInMarks op b = false) : PE X (.Compare a [op] [b] pos) (tOp r ta tb) := by
 intro pins s σ H Q I h
 exact wpAny_Compare1 (binT ha hb I h fun v u s2 x y H2 I2 rx ry q => ho pins s2 σ H2 x y v u Q I2 rx ry q) hm
noncomputable def tTest (t : TE) : TT := fun σ H Q => t σ H fun x H' => ∃ k, x = .bl k ∧ Q k H'
theorem pt_cmpR {op : CmpOp} {r : R2} (ho : OpR X (compareOp op) r) (ha : PE X a ta) (hb : PE X b tb) (hm : behindInMarks op b = false) : PT X (.Compare a [op] [b] pos) (tTest (tOp r ta tb)) := by
 intro pins s σ H Q I h
 refine wpAny_isTrue_Compare1 (thn (ha pins s σ H _ I h) fun v s1 ⟨x, H1, I1, r1, q1⟩ => thn (hb pins s1 σ H1 _ I1 q1) fun u s2 ⟨y, H2, I2, r2, q2⟩ =>
   thn (ho pins s2 σ H2 x y v u _ I2 r1 r2 q2) fun c s3 ⟨z, H3, I3, r3, k, e, q3⟩ => ?_) hm
 subst e
 cases r3
 exact wpAny_truthy_bool ⟨H3, I3, q3⟩
noncomputable def tChain (r r' : R2) (ta tb tc : TE) : TE := fun σ H Q => ta σ H fun x H1 => tb σ H1 fun y H2 => r x y H2 fun z H3 => ∃ k, z = .bl k ∧
 (if k = true then tc σ H3 fun w' H4 => r' y w' H4 Q else Q (.bl false) H3)
theorem pe_chain {op op' : CmpOp} {r r' : R2} (ho : OpR X (compareOp op) r) (ho' : OpR X (compareOp op') r') (ha : PE X a ta) (hb : PE X b tb) (hc : PE X c tc)
   (hm : lastMarks [op, op'] [b, c] = false := by with_unfolding_all rfl) : PE X (.Compare a [op, op'] [b, c] pos) (tChain r r' ta tb tc) := by
 intro pins s σ H Q I h
 refine Compare_chain (thn (ha pins s σ H _ I h) fun v s1 ⟨x, H1, I1, r1, q1⟩ => chain_link (thn (hb pins s1 σ H1 _ I1 q1) fun u s2 ⟨y, H2, I2, r2, q2⟩ =>
   thn (ho pins s2 σ H2 x y v u _ I2 r1 r2 q2) fun d s3 ⟨z, H3, I3, r3, k, e, q3⟩ => ?_)) hm
 subst e
 cases r3
 refine wpAny_truthy_bool ?_
 cases k with
 | false => exact ite_ff ⟨.bl false, H3, I3, rfl, q3⟩
 | true => exact ite_tt (chain_last (thn (hc pins s3 σ H3 _ I3 q3) fun w' s4 ⟨z', H4, I4, r4, q4⟩ => ho' pins s4 σ H4 y z' u w' Q I4 r2 r4 q4))
theorem pt_chain {op op' : CmpOp} {r r' : R2} (ho : OpR X (compareOp op) r) (ho' : OpR X (compareOp op') r') (ha : PE X a ta) (hb : PE X b tb) (hc : PE X c tc)
   (hm : lastMarks [op, op'] [b, c] = false := by with_unfolding_all rfl) : PT X (.Compare a [op, op'] [b, c] pos) (tTest (tChain r r' ta tb tc)) := by
 intro pins s σ H Q I h
 refine isTrue_chain (thn (ha pins s σ H _ I h) fun v s1 ⟨x, H1, I1, r1, q1⟩ => test_link (thn (hb pins s1 σ H1 _ I1 q1) fun u s2 ⟨y, H2, I2, r2, q2⟩ =>
   thn (ho pins s2 σ H2 x y v u _ I2 r1 r2 q2) fun d s3 ⟨z, H3, I3, r3, k, e, q3⟩ => ?_)) hm
 subst e
 cases r3
 refine wpAny_truthy_bool ?_
 cases k with
 | false =>
   obtain ⟨k', e', q'⟩ := q3
   cases e'
   exact ite_ff ⟨H3, I3, q'⟩
 | true =>
   refine ite_tt (test_last (thn (hc pins s3 σ H3 _ I3 q3) fun w' s4 ⟨z', H4, I4, r4, q4⟩ => thn (ho' pins s4 σ H4 y z' u w' _ I4 r2 r4 q4) fun d' s5 ⟨z2, H5, I5, r5, k2, e2, q5⟩ => ?_))
   subst e2
   cases r5
   exact wpAny_truthy_bool ⟨H5, I5, q5⟩
noncomputable def TruV (K : PySem.W.Frag) (x : V) (H : Hp) (k : Bool) : Prop :=
 match x with
 | .non => k = false
 | .bl b => k = b
 | .int i => k = (i != 0)
 | .str y => y.length ≤ sizeLine ∧ k = ((y.length : Int) != 0)
 | .byt y => y.size ≤ sizeLine ∧ k = ((y.size : Int) != 0)
 | .ref p => (∃ xs, SqL K H p xs ∧ k = !xs.isEmpty) ∨ (∃ xs, SqT K H p xs ∧ k = !xs.isEmpty) ∨ ∃ kvs, H p = some (.dK kvs) ∧ k = !kvs.isEmpty
 | _ => False
theorem isEmpty_kv {κ : Type} {kvs : List (κ × V)} {vs : List (κ × Value)} (r : KV kvs vs) : (!vs.isEmpty) = !kvs.isEmpty := by
 cases r <;> rfl
theorem isEmpty_of {xs : List V} {its : List Value} (r : Vals xs its) : (!its.toArray.isEmpty) = !xs.isEmpty := by
 cases r <;> simp
theorem line63 : (sizeLine : Nat) < 2 ^ 63 := by rw [sizeLine_eq]; decide
theorem tru_ok : TruR X (fun x H Q => ∃ k, TruV X.K x H k ∧ Q k H) := by
 intro pins s σ H x v Q I rx h
 obtain ⟨k, e, q⟩ := h
 have hl := line63
 have hs : sizeLine = 16777216 := sizeLine_eq
 cases x with
 | non =>
   cases rx
   have e' : k = false := e
   subst e'
   exact truthy_none ⟨H, I, q⟩
 | bl b =>
   cases rx
   have e' : k = b := e
   subst e'
   exact wpAny_truthy_bool ⟨H, I, q⟩
 | int i =>
   obtain ⟨t, rfl⟩ := rx
   have e' : k = (i != 0) := e
   subst e'
   exact PySem.P.truthy_int ⟨H, I, q⟩
 | str y =>
   obtain ⟨t, rfl⟩ := rx
   obtain ⟨hy, e'⟩ : y.length ≤ sizeLine ∧ k = ((y.length : Int) != 0) := e
   subst e'
   exact PySem.P.truthy_str (by lia) ⟨H, I.tok _, q⟩
 | byt y =>
   obtain ⟨t, rfl⟩ := rx
   obtain ⟨hy, e'⟩ : y.size ≤ sizeLine ∧ k = ((y.size : Int) != 0) := e
   subst e'
   exact PySem.W.truthy_bytes (by lia) ⟨H, I.tok _, q⟩
 | ref p =>
   cases rx
   have e' : (∃ xs, SqL X.K H p xs ∧ k = !xs.isEmpty) ∨ (∃ xs, SqT X.K H p xs ∧ k = !xs.isEmpty) ∨ ∃ kvs, H p = some (.dK kvs) ∧ k = !kvs.isEmpty := e
   rcases e' with ⟨xs, hx, e'⟩ | ⟨xs, hx, e'⟩ | ⟨kvs, hx, e'⟩
   · subst e'
     obtain ⟨its, r, pl, hz⟩ := I.list hx
     have hlen := r.length
     exact wpAny_truthy_list pl.isList (by simp only [List.size_toArray]; lia) ⟨H, I.tok _, by rw [isEmpty_of r]; exact q⟩
   · subst e'
     obtain ⟨its, r, pl, hz⟩ := I.tuple hx
     have hlen := r.length
     exact truthy_tuple pl (by simp only [List.size_toArray]; lia) ⟨H, I.tok _, by rw [isEmpty_of r]; exact q⟩
   · subst e'
     obtain ⟨hz, hS, vs, r, m⟩ : kvs.length ≤ sizeLine ∧ (p == sysModules) = false ∧ ∃ vs, KV kvs vs ∧ s.heap.DictOf (mixKind X.prog X.w) p vs := I.hok p _ hx
     have hlen : kvs.length = vs.length := Paired.length r
     exact wpAny_truthy_dict hS m (by lia) ⟨H, I.tok _, by rw [isEmpty_kv r]; exact q⟩
 | _ => exact (show False from e).elim
theorem pt_truth (ha : PE X a ta) (he : ∀ whole, isTrue a X.env whole = (do let v ← whole; standAt a.pos; holding [v] (truthy v))) :
   PT X a (fun σ H Q => ta σ H fun x H' => ∃ k, TruV X.K x H' k ∧ Q k H') := by
 intro pins s σ H Q I h
 exact isTrue_plain (thn (ha pins s σ H _ I h) fun v s1 ⟨x, H1, I1, r1, q1⟩ => tru_ok pins s1 σ H1 x v Q I1 r1 q1) (he _)
theorem op_add_str : OpR X (binaryOp .Add) (fun x y H Q => ∃ i j, x = .str i ∧ y = .str j ∧ i.length + j.length ≤ sizeLine ∧ Q (.str (i ++ j)) H) := by
 intro pins s σ H x y v u Q I rx ry h
 obtain ⟨i, j, rfl, rfl, hz, q⟩ := h
 obtain ⟨t, rfl⟩ := rx
 obtain ⟨t', rfl⟩ := ry
 exact add_str (fun t' tk => ⟨.str (i ++ j), H, I.tok _, ⟨_, rfl⟩, q⟩) hz
theorem vals1 {x : V} {us : List Value} (r : Vals [x] us) : ∃ u, us = [u] ∧ RelV x u := by
 cases r with
 | cons r1 r2 => cases r2; exact ⟨_, rfl, r1⟩
theorem vals2 {x y : V} {us : List Value} (r : Vals [x, y] us) : ∃ u w', us = [u, w'] ∧ RelV x u ∧ RelV y w' := by
 cases r with
 | cons r1 r2 =>
   cases r2 with
   | cons r3 r4 => cases r4; exact ⟨_, _, rfl, r1, r3⟩
theorem call_abs : CallR X (.builtin "abs") (fun xs H Q => ∃ i, xs = [.int i] ∧ Q (.int (if i < 0 then -i else i)) H) := by
 intro pins s σ H xs us Q I r h
 obtain ⟨i, rfl, q⟩ := h
 obtain ⟨u, rfl, t, rfl⟩ := vals1 r
 exact call_abs_int fun u tk => ⟨.int (if i < 0 then -i else i), H, I.tok _, ⟨_, rfl⟩, q⟩
theorem call_max2 (hc : X.calm = true) : CallR X (.builtin "max") (fun xs H Q => ∃ i j, xs = [.int i, .int j] ∧ Q (.int (if j > i then j else i)) H) := by
 intro pins s σ H xs us Q I r h
 obtain ⟨i, j, rfl, q⟩ := h
 obtain ⟨u, w', rfl, ⟨t, rfl⟩, ⟨t', rfl⟩⟩ := vals2 r
 refine max_two_ints (I.ok.hd hc) fun h' tk k => ⟨_, H, I.kept k, ?_, q⟩
 by_cases hj : j > i
 · rw [if_pos hj, if_pos hj]; exact ⟨_, rfl⟩
 · rw [if_neg hj, if_neg hj]; exact ⟨_, rfl⟩
end
end L2
namespace L2
open PySem PySem.Spec PyProof.Rows
section
variable {prog : Program} {w : World} {A : Around} {E : Value → Shared → Prop} {s : Shared} {K : PySem.W.Frag} {x dx C f : Addr} {mA : Str → Option Value} {name : Str} {v : Value}
end
section
variable {P : Program} {w : World} {H H' : Hp} {h h' : Heap} {a C dx : Addr} {fs fs' : List (Str × V)}
end
section
variable {X : Cx} {pins : List (Addr × Obj)} {σ : St} {H : Hp} {s : Shared} {a C dx : Addr} {fs : List (Str × V)} {f : Str} {v : V} {A : Around} {E : Value → Shared → Prop}
end
section
variable {X : Cx} {o e value : Expr} {f : Str} {pos pos' tpos : Pos} {ta tv : TE}
end
section
variable {X : Cx} {pins : List (Addr × Obj)} {σ : St} {H : Hp} {s : Shared} {A : Around} {E : Value → Shared → Prop} {Q : Value → Shared → Prop} {c : Value} {b : Bool}
end
end L2
namespace L2
open PySem PySem.Spec PyProof.Rows
structure Room (k : Nat) (A : Around) : Prop where
 hd : A.handled = none
 dp : A.depth + 3 * k + 5 < recursionLimit
 un : A.units + 16 * k + 200 < cLine
theorem Room.mono {j k : Nat} {A : Around} (r : Room k A) (h : j ≤ k) : Room j A := ⟨r.hd, by have := r.dp; lia, by have := r.un; lia⟩
theorem Room.deeper {k : Nat} {A : Around} (r : Room (k + 1) A) (env : Env) : Room k (A.deeper env) :=
 ⟨r.hd, by have := r.dp; show A.depth + 1 + 3 * k + 5 < _; lia, by have := r.un; show A.units + 3 + 16 * k + 200 < _; lia⟩
theorem Room.depth {k : Nat} {A : Around} (r : Room k A) : A.depth < recursionLimit := by have := r.dp; lia
theorem Room.units {k : Nat} {A : Around} (r : Room k A) : A.units + 64 < cLine := by have := r.un; lia
noncomputable def tNil : TA := fun _ H Q => Q [] H
noncomputable def tCons (ta : TE) (tr : TA) : TA := fun σ H Q => ta σ H fun x H1 => tr σ H1 fun xs H2 => Q (x :: xs) H2
section
variable {X : Cx} {e : Expr} {es : List Expr} {te : TE} {t : TA} {pos : Pos}
theorem pa_nil : PA X [] tNil := fun _ _ _ _ H Q I h => Calls.spliced_nil ⟨[], H, I, .nil, h⟩
theorem pa_cons (ha : PE X e te) (hr : PA X es t) (hs : starEach (e :: es) X.env = (false, eval e X.env) :: starEach es X.env := by rfl) : PA X (e :: es) (tCons te t) := by
 intro pos pins s σ H Q I h
 rw [hs]
 show wpAny _ _ (spliced ((false, eval e X.env) :: backTo pos (starEach es X.env))) _ _ s
 refine Calls.spliced_cons (thn (ha pins s σ H _ I h) fun u s1 ⟨x, H1, I1, r1, q1⟩ => ?_)
 exact thn (hr pos pins s1 σ H1 _ I1 q1) fun us s2 ⟨xs, H2, I2, r2, q2⟩ => ⟨x :: xs, H2, I2, .cons r1 r2, q2⟩
noncomputable def tTup (t : TA) : TE := fun σ H Q => t σ H fun xs H1 => xs.length ≤ sizeLine ∧ ∀ p, H1 p = none → Q (.ref p) (upd H1 p (.tup xs))
noncomputable def tLst (t : TA) : TE := fun σ H Q => t σ H fun xs H1 => xs.length ≤ sizeLine ∧ ∀ p, H1 p = none → Q (.ref p) (upd H1 p (.lst xs))
theorem pe_tup {x1} (h : PA X es t) : PE X (.Tuple es x1 pos) (tTup t) := by
 intro pins s σ H Q I hq
 refine wpAny_Tuple_spliced (thn (h pos pins s σ H _ I hq) fun us s1 ⟨xs, H1, I1, r, z, q⟩ => ⟨by rw [← r.length]; exact z, ?_⟩)
 have hf : H1 s1.heap.objs.size = none := I1.hok.fresh (Nat.le_refl _)
 refine ⟨.ref s1.heap.objs.size, upd H1 s1.heap.objs.size (.tup xs), I1.laid (t' := s1.toks) (fun b u e => Heap.get?_push_of_some _ e) (Nat.le_refl _) ?_, rfl, q _ hf⟩
 exact ⟨z, us, r, ⟨_, Heap.get?_push_size _ rfl, rfl, rfl, _, rfl⟩⟩
theorem pe_lst (h : PA X es t) : PE X (.List es pos) (tLst t) := by
 intro pins s σ H Q I hq
 refine wpAny_List_spliced (thn (h pos pins s σ H _ I hq) fun us s1 ⟨xs, H1, I1, r, z, q⟩ => ⟨by rw [← r.length]; exact z, ?_⟩)
 have hf : H1 s1.heap.objs.size = none := I1.hok.fresh (Nat.le_refl _)
 refine ⟨.ref s1.heap.objs.size, upd H1 s1.heap.objs.size (.lst xs), I1.laid (t' := s1.toks) (fun b u e => Heap.get?_push_of_some _ e) (Nat.le_refl _) ?_, rfl, q _ hf⟩
 exact ⟨z, us, 0, r, Heap.get?_push_size _ rfl⟩
end
noncomputable abbrev Sp := List V → Hp → VK → XK → Prop
noncomputable abbrev CXT := List Env → Hp → Shared → XK → Value → Shared → Prop
structure Env0 (P : Program) (w : World) (K : PySem.W.Frag) (mg : Str → Option Value) (base : Heap) (A : Around) (outer : List Env) (s : Shared) (H : Hp) : Prop where
 frames : A.frames = some outer
 mod : Mod K mg base
 bs : ∀ b o, base.get? b = some o → s.heap.get? b = some o ∧ H b = none
 bsz : base.objs.size ≤ s.heap.objs.size
 funs : s.heap.FunFrames base outer
 frf : ∀ b ∈ frs outer, H b = none
 hok : HOk P w H s.heap
 bare : AllBare s.gens
noncomputable def CE (outer : List Env) (P : Program) (w : World) (H : Hp) (s : Shared) (Q : VK) (u : Value) (s' : Shared) : Prop :=
 ∃ v H', s'.os = s.os ∧ AllBare s'.gens ∧ Un (frs outer) [] H H' s.heap s'.heap ∧ HOk P w H' s'.heap ∧ RelV v u ∧ Q v H'
noncomputable def CR (CX : CXT) (outer : List Env) (P : Program) (w : World) (H : Hp) (s : Shared) (Q : VK) (E : XK) (r : Result) (s' : Shared) : Prop :=
 match r with
 | .ok (.ret u) => CE outer P w H s Q u s'
 | .ok _ => False
 | .error e => CX outer H s E e s'
structure FnOk (P : Program) (w : World) (K : PySem.W.Frag) (mg : Str → Option Value) (base : Heap) (CX : CXT) (k : Nat) (f : Addr) (fd : FuncData) (ps : List Str) (sp : Sp) : Prop where
 len : ∀ vs H Q E, sp vs H Q E → vs.length = ps.length
 run : ∀ (A : Around) (outer : List Env) (s : Shared) (H : Hp) (args : Args) (us : List Value) (vs : List V) (Q : VK) (E : XK), Room k A → Env0 P w K mg base A outer s H → BindsTo s fd args (ps.zip us) → Vals vs us → sp vs H Q E →
   codeAny (model P w) A (.call (.ref f) args) (CR CX outer P w H s Q E) s
theorem FnOk.mono {P : Program} {w : World} {K : PySem.W.Frag} {mg : Str → Option Value} {base : Heap} {CX : CXT} {j k : Nat} {f : Addr} {fd : FuncData} {ps : List Str} {sp : Sp} (F : FnOk P w K mg base CX j f fd ps sp) (h : j ≤ k) :
   FnOk P w K mg base CX k f fd ps sp := ⟨F.len, fun A outer s H args us vs Q E hr => F.run A outer s H args us vs Q E (hr.mono h)⟩
section
variable {X : Cx} {pins : List (Addr × Obj)} {σ : St} {H : Hp} {s s' : Shared}
theorem Inv.env0 (I : Inv X pins σ H s) : Env0 X.prog X.w X.K X.mg X.base X.A X.stack s H :=
 ⟨I.ok.frames, I.ok.mod, I.bs, Nat.le_trans I.ok.bsz I.sz, I.stack, I.stkFree, I.hok, I.bare⟩
theorem Inv.after {Q : VK} {u : Value} (I : Inv X pins σ H s) (h : CE X.stack X.prog X.w H s Q u s') : EP X pins σ Q u s' := by
 obtain ⟨v, H', os, bare, un, hok, r, q⟩ := h
 obtain ⟨hh, g, d, t, os'⟩ := s'
 obtain rfl : os' = s.os := os
 exact ⟨v, H', I.call (h' := hh) (g' := g) (d' := d) (t' := t) (ch := []) un hok bare (fun b z => absurd z (by simp)), r, q⟩
end
noncomputable def tCall (sp : Sp) (dvs : List V) (E : XK) (t : TA) : TE := fun σ H Q => t σ H fun vs H1 => sp (vs ++ dvs) H1 Q E
noncomputable def Binds (K : PySem.W.Frag) (fd : FuncData) (ps : List Str) (ds : List Value) : Prop :=
 ∀ (s : Shared) (us : List Value), K.In s.heap → (us ++ ds).length = ps.length → BindsTo s fd ⟨us, []⟩ (ps.zip (us ++ ds))
theorem Binds.all {K : PySem.W.Frag} {fd : FuncData} {ps : List Str} (h : ∀ us : List Value, us.length = ps.length → bindArgs fd ⟨us, []⟩ = pure (ps.zip us)) : Binds K fd ps [] := fun s us _ hl => by
 rw [List.append_nil] at hl ⊢
 exact .of_eq (h us hl)
noncomputable def Passes (CX : CXT) (X : Cx) (E : XK) : Prop := ∀ (pins : List (Addr × Obj)) (σ : St) (H : Hp) (s : Shared) (e : Value) (s' : Shared), Inv X pins σ H s → CX X.stack H s E e s' → X.xe e s'
section
variable {X : Cx} {CX : CXT} {k : Nat} {f C : Addr} {fd : FuncData} {ps : List Str} {sp : Sp} {dvs : List V} {ds : List Value} {E : XK} {x m : Str} {p pos apos : Pos} {e o : Expr} {es : List Expr} {ta : TE} {t : TA}
theorem run_fn {pins : List (Addr × Obj)} {σ : St} {H : Hp} {s : Shared} {Q : VK} {us : List Value} {vs : List V} (F : FnOk X.prog X.w X.K X.mg X.base CX k f fd ps sp) (hr : Room k X.A) (hb : Binds X.K fd ps ds) (hd : Vals dvs ds) (hx : Passes CX X E)
   (I : Inv X pins σ H s) (r : Vals vs us) (h : sp (vs ++ dvs) H Q E) : wpAny (model X.prog X.w) X.A (call (.ref f) us) (EP X pins σ Q) X.xe s := by
 have r2 : Vals (vs ++ dvs) (us ++ ds) := r.append hd
 have hl : (us ++ ds).length = ps.length := by rw [← r2.length]; exact F.len _ _ _ _ h
 refine wpAny_call (codeAny_mono (F.run X.A X.stack s H ⟨us, []⟩ (us ++ ds) (vs ++ dvs) Q E hr I.env0 (hb s us I.kIn hl) r2 h) fun r s' hq => ?_)
 cases r with
 | error e => exact hx pins σ H s e s' I hq
 | ok fl =>
   cases fl with
   | ret u => exact I.after hq
   | next => exact False.elim hq
   | brk => exact False.elim hq
   | cont => exact False.elim hq
theorem pe_call (F : FnOk X.prog X.w X.K X.mg X.base CX k f fd ps sp) (hr : Room k X.A) (hg : Gl X x) (hm : X.mg x = some (.ref f)) (hk : PySem.W.keepIn X.K (.ref f) = true) (hb : Binds X.K fd ps ds) (hd : Vals dvs ds) (hx : Passes CX X E)
   (ha : PA X (e :: es) t) (hdb : (x == ("__debug__" : Str)) = false := by decide) (he : starEach (e :: es) X.env = (false, eval e X.env) :: starEach es X.env := by rfl) (hpl : (backTo pos (starEach es X.env)).any (·.1) = false := by rfl) :
   PE X (.Call (.Name x p) (e :: es) [] pos) (tCall sp dvs E t) := by
 intro pins s σ H Q I h
 refine wpAny_Call_Name_kw (ld_glob I hg hm ?_ hdb)
 refine PySem.W.callWith_K (h₀ := X.base) I.ok.mod.kin hk (thn (ha pos pins s σ H _ I h) fun us s1 ⟨vs, H1, I1, r, q⟩ => ⟨I1.kIn, ?_⟩) he hpl
 exact run_fn F hr hb hd hx I1 r q
end
section
variable {X : Cx} {CX : CXT} {k : Nat} {f C : Addr} {fd : FuncData} {ps ks : List Str} {sp : Sp} {E : XK} {x m : Str} {p pos apos kpos : Pos} {e o : Expr} {es : List Expr} {kws : List Keyword} {te ta : TE} {t tk : TA} {nm : Option Str}
variable {g : List Value → List Value → List Value} {gV : List V → List V → List V}
end
structure FnScope (N P : List Str) (sc : Scope) : Prop where
 kind : sc.kind = .function
 co : sc.isCoroutine = false
 gen : sc.isGenerator = false
 nd : N.Nodup
 pre : N.take P.length = P
 par : ∀ x ∈ P, sc.names.lookup x = some .local ∨ sc.names.lookup x = some .cell
 nofree : ∀ y ∈ sc.names, y.2 ≠ .free
theorem bindL_out {kindOf : Str → Option NameKind} {x : Str} : ∀ {binds : List (Str × Value)} {m : Str → Option Value}, (∀ v, (x, v) ∉ binds) → bindL kindOf binds m x = m x
 | [], _, _ => rfl
 | (n, v) :: r, m, h => by
   unfold bindL
   rw [bindL_out fun w hw => h w (List.mem_cons_of_mem _ hw)]
   split
   · have : x ≠ n := by rintro rfl; exact h v List.mem_cons_self
     simp [this]
   · rfl
theorem bindC_out {kindOf : Str → Option NameKind} {x : Str} : ∀ {binds : List (Str × Value)} {m : Str → Option Value}, (∀ v, (x, v) ∉ binds) → bindC kindOf binds m x = m x
 | [], _, _ => rfl
 | (n, v) :: r, m, h => by
   unfold bindC
   rw [bindC_out fun w hw => h w (List.mem_cons_of_mem _ hw)]
   split
   · rfl
   · have : x ≠ n := by rintro rfl; exact h v List.mem_cons_self
     simp [this]
theorem bindL_get {kindOf : Str → Option NameKind} {x : Str} {v : Value} : ∀ {P : List Str} {vs : List Value} {i : Nat} {m : Str → Option Value}, P.Nodup → P[i]? = some x → vs[i]? = some v → kindOf x = some .local →
   bindL kindOf (P.zip vs) m x = some v
 | [], _, _, _, _, h, _, _ => by simp at h
 | _ :: _, [], _, _, _, _, h, _ => by simp at h
 | p :: P, w :: vs, 0, m, nd, h1, h2, hk => by
   simp at h1 h2; subst h1; subst h2
   show bindL kindOf ((p, w) :: P.zip vs) m p = _
   unfold bindL
   rw [bindL_out fun v hv => (List.nodup_cons.mp nd).1 (List.of_mem_zip hv).1, if_pos hk]
   simp
 | p :: P, w :: vs, i + 1, m, nd, h1, h2, hk => by
   show bindL kindOf ((p, w) :: P.zip vs) m x = _
   unfold bindL
   exact bindL_get (i := i) (List.nodup_cons.mp nd).2 (by simpa using h1) (by simpa using h2) hk
theorem bindC_get {kindOf : Str → Option NameKind} {x : Str} {v : Value} : ∀ {P : List Str} {vs : List Value} {i : Nat} {m : Str → Option Value}, P.Nodup → P[i]? = some x → vs[i]? = some v → kindOf x ≠ some .local →
   bindC kindOf (P.zip vs) m x = some v
 | [], _, _, _, _, h, _, _ => by simp at h
 | _ :: _, [], _, _, _, _, h, _ => by simp at h
 | p :: P, w :: vs, 0, m, nd, h1, h2, hk => by
   simp at h1 h2; subst h1; subst h2
   show bindC kindOf ((p, w) :: P.zip vs) m p = _
   unfold bindC
   rw [bindC_out fun v hv => (List.nodup_cons.mp nd).1 (List.of_mem_zip hv).1, if_neg hk]
   simp
 | p :: P, w :: vs, i + 1, m, nd, h1, h2, hk => by
   show bindC kindOf ((p, w) :: P.zip vs) m x = _
   unfold bindC
   exact bindC_get (i := i) (List.nodup_cons.mp nd).2 (by simpa using h1) (by simpa using h2) hk
noncomputable def start (N : List Str) (vs : List V) : St := vs.map some ++ List.replicate (N.length - vs.length) none
noncomputable def cxOf (CX : CXT) (P : Program) (w : World) (K : PySem.W.Frag) (mg : Str → Option Value) (base : Heap) (N : List Str) (qual : Str) (scope : Scope) (f : Addr) (cd : Value) (A : Around) (outer : List Env) (s : Shared) (H : Hp) (E : XK) : Cx where
 prog := P
 w := w
 K := K
 mg := mg
 base := base
 A := A.deeper (envOfC qual scope s.heap.objs.size f cd)
 N := N
 s₀ := s
 H₀ := H
 env := envOfC qual scope s.heap.objs.size f cd
 outer := outer
 stack := envOfC qual scope s.heap.objs.size f cd :: outer
 ex := []
 calm := true
 fn := fun _ => true
 pn := []
 xe := fun e s' => wpAny (model P w) (A.deeper (envOfC qual scope s.heap.objs.size f cd)) (leaving (envOfC qual scope s.heap.objs.size f cd) e) (fun _ s'' => CX outer H s E e s'') (fun e' s'' => CX outer H s E e' s'') s'
theorem cell_has {sc : Scope} {n : Nat} {x : Str} (h : sc.names.lookup x = some .cell) : ∃ c, (cellsFrom n sc.names []).lookup x = some c := by
 have q := PySem.W.cellsFrom_some sc.names n [] (.inl h)
 exact Option.isSome_iff_exists.mp q
theorem inv_start {CX : CXT} {P : Program} {w : World} {K : PySem.W.Frag} {mg : Str → Option Value} {base : Heap} {N ps : List Str} {qual : Str} {scope : Scope} {f : Addr} {cd : Value} {A : Around} {outer : List Env} {s s1 : Shared} {H : Hp} {E : XK} {us : List Value} {vs : List V}
   (S : FnScope N ps scope) (hd : A.handled = none) (e0 : Env0 P w K mg base A outer s H) (hl : vs.length = ps.length) (r : Vals vs us)
   (x : InCallC s s.heap.objs.size (bindL (envOfC qual scope s.heap.objs.size f cd).kindOf (ps.zip us) fun _ => none) (cellsFrom (s.heap.objs.size + 1) scope.names []) (bindC (envOfC qual scope s.heap.objs.size f cd).kindOf (ps.zip us) fun _ => none) s1) :
   Inv (cxOf CX P w K mg base N qual scope f cd A outer s H E) [] (start N vs) H s1 := by
 have hpl : ps.length ≤ N.length := by have := congrArg List.length S.pre; rw [List.length_take] at this; lia
 obtain ⟨h1, tk, rfl, hk⟩ := x.done
 have noA : ∀ b : Addr, b ∉ (cxOf CX P w K mg base N qual scope f cd A outer s H E).ex := fun b z => absurd (show b ∈ ([] : List Addr) from z) (by simp)
 refine ⟨⟨e0.mod, S.kind, rfl, rfl, Nat.le_refl _, fun y z c h1 h2 => ?_, fun y hy => ?_, fun y c _ h => ?_, fun _ => hd, Around.frames_deeper e0.frames, .inr ⟨rfl, rfl⟩, fun b z => absurd z (noA b), e0.bs, e0.bsz, fun b _ _ => noA b, fun b z => absurd z (noA b), e0.funs, e0.frf⟩,
   rfl, e0.bare, Un.kept hk, ⟨_, x.toInCall.ns, fun i y v h1 h2 h3 => ?_⟩, fun y c h => ⟨_, x.cell y c h⟩, e0.hok.fresh (Nat.le_refl _), fun y c h => ?_, fun p hp => absurd (show p ∈ ([] : List (Addr × Obj)) from hp) (by simp), e0.hok.kept hk, ?_⟩
 · exact name_of_addr x.apart (PySem.mem_of_lookup h1) (PySem.mem_of_lookup h2)
 · have hy : scope.names.lookup y = some .cell ∨ scope.names.lookup y = some .free := hy
   rcases hy with hy | hy
   · exact cell_has hy
   · exact absurd rfl (S.nofree _ (PySem.mem_of_lookup hy))
 · exact Nat.le_of_lt (x.above y c (PySem.mem_of_lookup h))
 · have hi : i < vs.length := by
     unfold start at h2
     by_cases hi : i < vs.length
     · exact hi
     · rw [List.getElem?_append_right (by simpa using hi)] at h2
       rw [List.getElem?_replicate] at h2
       split at h2 <;> cases h2
   have ha : vs[i]? = some v := by
     unfold start at h2
     rw [List.getElem?_append_left (by simpa using hi), List.getElem?_map] at h2
     cases e : vs[i]? with
     | none => rw [e] at h2; cases h2
     | some a => rw [e] at h2; cases h2; rfl
   obtain ⟨u, hu, rv⟩ := r.get ha
   have hp : ps[i]? = some y := by
     rw [← S.pre, List.getElem?_take_of_lt (by lia)]; exact h1
   have ndP : ps.Nodup := by rw [← S.pre]; exact S.nd.sublist (List.take_sublist _ _)
   refine ⟨u, rv, ?_⟩
   rcases S.par y (List.mem_of_getElem? hp) with k | k
   · exact .inl ⟨k, bindL_get ndP hp hu k⟩
   · obtain ⟨c, e⟩ := cell_has (n := s.heap.objs.size + 1) k
     refine .inr ⟨.inl k, c, e, ?_⟩
     have q := x.cell y c e
     rw [bindC_get ndP hp hu (by show scope.names.lookup y ≠ _; rw [k]; decide)] at q
     exact q
 · exact e0.hok.fresh (Nat.le_of_lt (x.above y c (PySem.mem_of_lookup h)))
 · unfold start
   show _ = N.length
   rw [List.length_append, List.length_map, List.length_replicate]
   lia
theorem fn_of {CX : CXT} {P : Program} {w : World} {K : PySem.W.Frag} {mg : Str → Option Value} {base : Heap} {k : Nat} {f : Addr} {name qual : Str} {params : Arguments} {body : List Stmt} {scope : Scope} {dV kV doc pm cdv ct oc : Value} {an od : Option Addr}
   {osl : Array (Option Value)} {N ps : List Str} {sp : Sp} (lk : K.lookup f = some ⟨oc, od, .func (PySem.W.fnOf name qual params body scope dV kV doc pm an cdv ct), osl⟩) (hcd : PySem.W.codeIn K cdv qual = true) (S : FnScope N ps scope)
   (len : ∀ vs H Q E, sp vs H Q E → vs.length = ps.length)
   (hbody : ∀ (A : Around) (outer : List Env) (s : Shared) (H : Hp) (vs : List V) (Q : VK) (E : XK), Room k (A.deeper (envOfC qual scope s.heap.objs.size f cdv)) → sp vs H Q E →
     ∃ t, PSs (cxOf CX P w K mg base N qual scope f cdv A outer s H E) body t ∧ t { nx := fun _ H' => Q .non H', rt := Q } (start N vs) H) :
   FnOk P w K mg base CX (k + 1) f (PySem.W.fnOf name qual params body scope dV kV doc pm an cdv ct) ps sp := by
 refine ⟨len, fun A outer s H args us vs Q E hr e0 hb r hsp => ?_⟩
 have hl := len _ _ _ _ hsp
 have KX : K.In s.heap := e0.mod.kin.keeps fun b o e => (e0.bs b o e).1
 have lim : s.heap.NoLimit := e0.mod.nolimit.keeps fun b o e => (e0.bs b o e).1
 have hkind : ∀ y ∈ ps.zip us, scope.names.lookup y.1 = some .local ∨ (scope.names.lookup y.1 = some .cell ∧ ((cellsFrom (s.heap.objs.size + 1) scope.names []).lookup y.1).isSome = true) := fun ⟨n, v⟩ hy => by
   rcases S.par n (List.of_mem_zip hy).1 with q | q
   · exact .inl q
   · exact .inr ⟨q, PySem.W.cellsFrom_some _ _ _ (.inl q)⟩
 refine codeAny_call_function hr.depth (KX _ _ lk) rfl S.co S.gen rfl (PySem.W.codeRec_of KX hcd) (hb _ _ _ _ ?_)
 refine wpAny_newFunctionEnv_cells S.kind hkind fun env he s1 x => ?_
 subst he
 refine ⟨lim.keeps x.toInCall.keep, codeAny_func ?_⟩
 obtain ⟨t, ht, hq⟩ := hbody A outer s H vs Q E (hr.deeper _) hsp
 have I : Inv (cxOf CX P w K mg base N qual scope f cdv A outer s H E) [] (start N vs) H s1 := inv_start S hr.hd e0 hl r x
 refine wpAny_mono (ht [] s1 (start N vs) H _ I hq) (fun fl s' hs => ?_) fun e s' hs => hs
 have fin : ∀ {σ' : St} {H' : Hp} {v : V} {u : Value}, Inv (cxOf CX P w K mg base N qual scope f cdv A outer s H E) [] σ' H' s' → RelV v u → Q v H' → CE outer P w H s Q u s' :=
   fun {σ' H' v u} J rv q => ⟨v, H', J.os, J.bare, J.base, J.hok, rv, q⟩
 cases fl with
 | ret u =>
   obtain ⟨v, σ', H', J, rv, q⟩ := hs
   exact fin J rv q
 | next =>
   obtain ⟨σ', H', J, q⟩ := hs
   exact fin (v := V.non) (u := Value.none) J rfl q
 | brk =>
   obtain ⟨_, _, _, q⟩ := hs
   exact False.elim q
 | cont =>
   obtain ⟨_, _, _, q⟩ := hs
   exact False.elim q
end L2
namespace L2
open PySem PySem.Spec PyProof.Rows
section
variable {X : Cx} {x : Str} {p pos : Pos} {e : Expr} {es : List Expr} {t : TA} {id T : String} {r : List V → Hp → VK → Prop}
noncomputable def tCB (r : List V → Hp → VK → Prop) (t : TA) : TE := fun σ H Q => t σ H fun vs H1 => r vs H1 Q
theorem pe_callB (hc : CallR X (.builtin id) r) (hg : Gl X x) (hm : X.mg x = none) (hv : bootBuiltins x = some (.builtin id)) (ha : PA X (e :: es) t) (hn : x ≠ "__name__" := by decide) (hdb : (x == ("__debug__" : Str)) = false := by decide)
   (he : starEach (e :: es) X.env = (false, eval e X.env) :: starEach es X.env := by rfl) (hpl : (backTo pos (starEach es X.env)).any (·.1) = false := by rfl) : PE X (.Call (.Name x p) (e :: es) [] pos) (tCB r t) := by
 intro pins s σ H Q I h
 refine wpAny_Call_Name_kw (ld_blt I hg hm hv ?_ hn hdb)
 exact PyProof.Rows.callWith_builtin1 (thn (ha pos pins s σ H _ I h) fun us s1 ⟨vs, H1, I1, r1, q1⟩ => hc pins s1 σ H1 vs us Q I1 r1 q1) he hpl
theorem pe_callTy (hc : CallR X (.type T) r) (hg : Gl X x) (hm : X.mg x = none) (hv : bootBuiltins x = some (.type T)) (ha : PA X (e :: es) t) (hn : x ≠ "__name__" := by decide) (hdb : (x == ("__debug__" : Str)) = false := by decide)
   (he : starEach (e :: es) X.env = (false, eval e X.env) :: starEach es X.env := by rfl) (hpl : (backTo pos (starEach es X.env)).any (·.1) = false := by rfl) : PE X (.Call (.Name x p) (e :: es) [] pos) (tCB r t) := by
 intro pins s σ H Q I h
 refine wpAny_Call_Name_kw (ld_blt I hg hm hv ?_ hn hdb)
 exact PyProof.Rows.callWith_type1 (thn (ha pos pins s σ H _ I h) fun us s1 ⟨vs, H1, I1, r1, q1⟩ => hc pins s1 σ H1 vs us Q I1 r1 q1) he hpl
end
end L2
namespace HT
open PySem PyProof.Rows
section
open PySem.SeqAt
open PySem.AutoSeq1 (wpAny_loadPart')
open PySem.MeetsSeq PySem.MeetsSeq2 PySem.MeetsSeq3
end
section
variable {prog : Program} {w : World} {A : Around} {E : Value → Shared → Prop} {s : Shared}
theorem cat_tup {t b : Addr} {vs ws : List Value} {Q : Value → Shared → Prop} (ht : IsTup s.heap t vs.toArray) (hb : IsTup s.heap b ws.toArray) (hv : vs ≠ [])
   (h1 : ws = [] → Q (.ref t) s) (h2 : ws ≠ [] → Q (.ref s.heap.objs.size) { s with heap := s.heap.push { cls := .type "tuple", data := .seq (vs ++ ws).toArray } })
   (hsz : vs.length + ws.length ≤ sizeLine) : wpAny (model prog w) A (binaryOp .Add (.ref t) (.ref b)) Q E s := by
 obtain ⟨⟨cls, dd, data, sl⟩, ho, hc, n, hd⟩ := id ht
 obtain ⟨⟨cls2, dd2, data2, sl2⟩, ho2, hc2, n2, hd2⟩ := id hb
 simp only at hc hd hc2 hd2
 subst hc hd hc2 hd2
 have e : vs.toArray ++ ws.toArray = (vs ++ ws).toArray := by simp
 by_cases hw : ws = []
 · exact concat_meets ⟨_, ho, rfl⟩ ⟨_, ho2, rfl⟩ noFill_tuple_add seq_tuple_add PySem.F.slot_tuple_add PySem.F.entry_tuple_add (PySem.F.args_tuple_add_2 _ _)
     (tuple_addW1 t b vs.toArray ws.toArray n n2 dd dd2 sl sl2 (by simpa using hv) (by simp [hw])) ⟨ho, ho2, h1 hw⟩
 · refine concat_meets ⟨_, ho, rfl⟩ ⟨_, ho2, rfl⟩ noFill_tuple_add seq_tuple_add PySem.F.slot_tuple_add PySem.F.entry_tuple_add (PySem.F.args_tuple_add_2 _ _)
     (tuple_addW2 t b vs.toArray ws.toArray n n2 dd dd2 sl sl2 (by simpa using hv) (by simpa using hw) (by rw [List.size_toArray, List.size_toArray]; exact hsz)) ⟨ho, ho2, ?_⟩
   rw [e]
   exact h2 hw
noncomputable def sIx (n d : Nat) : Option Int → Nat
 | none => d
 | some v => if v < 0 then (v + (n : Int)).toNat else min v.toNat n
theorem sIx_none (n d : Nat) : sIx n d none = d := rfl
theorem sIx_nat (n d k : Nat) : sIx n d (some (k : Int)) = min k n := by
 show (if (k : Int) < 0 then ((k : Int) + (n : Int)).toNat else min (k : Int).toNat n) = min k n
 rw [if_neg (by lia), Int.toNat_natCast]
theorem sIx_le (n d : Nat) (hd : d ≤ n) (o : Option Int) : sIx n d o ≤ n := by
 cases o with
 | none => exact hd
 | some v =>
   show (if v < 0 then (v + (n : Int)).toNat else min v.toNat n) ≤ n
   by_cases hv : v < 0
   · rw [if_pos hv]; lia
   · rw [if_neg hv]; exact Nat.min_le_right _ _
theorem clip_eq (v : Int) (n d : Nat) : (if v < 0 then max (v + (n : Int)) 0 else min v (n : Int)) = ((sIx n d (some v) : Nat) : Int) := by
 show (if v < 0 then max (v + (n : Int)) 0 else min v (n : Int)) = (((if v < 0 then (v + (n : Int)).toNat else min v.toNat n) : Nat) : Int)
 by_cases hv : v < 0
 · simp only [if_pos hv]; lia
 · simp only [if_neg hv]; lia
theorem adjust_gen (lo hi : Option Int) (n : Nat) : Builtin.Slice.sliceAdjust lo hi 1 (n : Int) = (((sIx n 0 lo : Nat) : Int), ((sIx n n hi : Nat) : Int)) := by
 have h1 : ¬ ((1 : Int) < 0) := by lia
 unfold Builtin.Slice.sliceAdjust
 simp only [h1, if_false]
 refine Prod.ext ?_ ?_
 · cases lo with
   | none => rfl
   | some v => exact clip_eq v n 0
 · cases hi with
   | none => rfl
   | some v => exact clip_eq v n n
theorem places_gen (i j : Nat) : Builtin.Slice.slicePlaces (i : Int) (j : Int) 1 = j - i := by
 unfold Builtin.Slice.slicePlaces
 have h1 : (1 : Int) > 0 := by lia
 simp only [h1, if_true, Int.ediv_one]
 split <;> lia
theorem slicePart_ {v : Value} {o : Option Int} {Q : Option Int → Shared → Prop} (p : IsPart v o) (h : Q o s) : wpAny (model prog w) A (Builtin.Slice.slicePartIndex v) Q E s := by
 cases p with
 | none => exact slicePart_none h
 | int i t => exact slicePart_int h
theorem sliceApplied_gen {sl : Addr} {vl vu : Value} {lo hi : Option Int} {n : Nat} {Q : Int × Int × Nat → Shared → Prop} (hs : s.heap.IsSliceOf sl vl vu .none) (pl : IsPart vl lo) (pu : IsPart vu hi)
   (h : Q (((sIx n 0 lo : Nat) : Int), 1, sIx n n hi - sIx n 0 lo) s) : wpAny (model prog w) A (Builtin.Slice.sliceApplied (.ref sl) (pure (n : Int))) Q E s := by
 obtain ⟨os, hos, hcs, hds⟩ := id hs
 unfold Builtin.Slice.sliceApplied Builtin.Slice.sliceFields
 refine wpAny_bind (wpAny_bind (wpAny_field hos hds (x := vl) rfl (wpAny_bind (wpAny_field hos hds (x := vu) rfl (wpAny_bind (wpAny_field hos hds (x := .none) rfl (wpAny_pure ?_)))))))
 refine wpAny_bind (slicePart_none ?_)
 show wpAny _ _ (if ((1 : Int) == 0) = true then _ else _) _ _ s
 rw [if_neg (by decide)]
 refine wpAny_bind (slicePart_ pl (wpAny_bind (slicePart_ pu (wpAny_bind (wpAny_pure ?_)))))
 show wpAny _ _ (match Builtin.Slice.sliceAdjust lo hi 1 (n : Int) with | (lo, hi) => pure (lo, (1 : Int), Builtin.Slice.slicePlaces lo hi 1)) _ _ s
 rw [adjust_gen lo hi n]
 show wpAny _ _ (pure (((sIx n 0 lo : Nat) : Int), (1 : Int), Builtin.Slice.slicePlaces ((sIx n 0 lo : Nat) : Int) ((sIx n n hi : Nat) : Int) 1)) _ _ s
 rw [places_gen]
 exact wpAny_pure h
theorem pick_gen (xs : Array Value) (i k : Nat) : ((List.range k).filterMap fun (m : Nat) => xs[((i : Int) + (m : Int) * 1).toNat]?).toArray = ((xs.toList.drop i).take k).toArray := by
 have e : (fun (m : Nat) => xs[((i : Int) + (m : Int) * 1).toNat]?) = fun m => xs[i + m]? := by
   funext m
   have : ((i : Int) + (m : Int) * 1).toNat = i + m := by lia
   rw [this]
 rw [e]
 have := pick_run xs i k
 rw [List.filterMap_map] at this
 have e2 : ((fun x => xs[x]?) ∘ fun x => i + x) = fun m => xs[i + m]? := rfl
 rw [e2] at this
 rw [this]
theorem getItem_tuple_cut {t sl : Addr} {items : Array Value} {vl vu : Value} {lo hi : Option Int} {Q : Value → Shared → Prop} (ht : IsTup s.heap t items) (hs : s.heap.IsSliceOf sl vl vu .none) (pl : IsPart vl lo) (pu : IsPart vu hi)
   (hw : ¬ (sIx items.size 0 lo = 0 ∧ sIx items.size items.size hi = items.size))
   (h : Q (.ref s.heap.objs.size) { s with heap := s.heap.push { cls := .type "tuple", data := .seq ((items.toList.drop (sIx items.size 0 lo)).take (sIx items.size items.size hi - sIx items.size 0 lo)).toArray } })
   (hsz : items.size ≤ sizeLine) : wpAny (model prog w) A (getItem (.ref t) (.ref sl)) Q E s := by
 have htake : sizeOk (.seq ((items.toList.drop (sIx items.size 0 lo)).take (sIx items.size items.size hi - sIx items.size 0 lo)).toArray) := by
   show ((items.toList.drop (sIx items.size 0 lo)).take (sIx items.size items.size hi - sIx items.size 0 lo)).toArray.size ≤ sizeLine
   rw [List.size_toArray, List.length_take, List.length_drop, Array.length_toList]
   lia
 have hj : sIx items.size items.size hi ≤ items.size := sIx_le _ _ (Nat.le_refl _) hi
 obtain ⟨os, hos, hcs, hds⟩ := id hs
 have hTs : s.TypeIs (.ref sl) "slice" := ⟨os, hos, hcs⟩
 unfold getItem
 try with_reducible refine wpAny_holding ?_
 first | refine wpAny_bind (wpAny_pure ?_) | skip
 refine wpAny_bind (wpAny_sequenceKey ht.typeIs (by decide) ?_)
 refine wpAny_bind (wpAny_callSpecial?_slot (name := Str.ofString "__getitem__") ht.typeIs PyProof.Rows.slot_tuple_getitem
   (wpAny_call_entry PyProof.Rows.slot_tuple_getitem ht.typeIs entry_tuple_getitem ?_ (args_tuple_getitem _ _)))
 show wpAny _ _ (Builtin.Tuple.tupleItemsOf (.ref t) >>= _) _ _ s
 refine wpAny_bind (tupleItemsOf_ ht ?_)
 refine wpAny_bind (wpAny_typeOf hTs ?_)
 rw [if_pos (by decide)]
 refine wpAny_bind (sliceApplied_gen hs pl pu ?_)
 have hno : ¬ ((((sIx items.size 0 lo : Nat) : Int) == 0 && (1 : Int) == 1 && (sIx items.size items.size hi - sIx items.size 0 lo) == items.size) = true) := by
   intro q
   rw [Bool.and_eq_true, Bool.and_eq_true] at q
   have q1 : ((sIx items.size 0 lo : Nat) : Int) = 0 := eq_of_beq q.1.1
   have q2 : sIx items.size items.size hi - sIx items.size 0 lo = items.size := eq_of_beq q.2
   exact hw ⟨by lia, by lia⟩
 show wpAny _ _ (if (((sIx items.size 0 lo : Nat) : Int) == 0 && (1 : Int) == 1 && (sIx items.size items.size hi - sIx items.size 0 lo) == items.size) = true then _ else _) _ _ s
 rw [if_neg hno, pick_gen]
 first
   | exact wpAny_bind (m := Builtin.Tuple.tupleExact _) (wpAny_newObj_type (wpAny_pure ⟨_, rfl, wpAny_pure h⟩) htake)
   | exact wpAny_bind (m := Builtin.Tuple.tupleExact _) (wpAny_newObj_type (wpAny_bind (wpAny_pure (wpAny_pure ⟨_, rfl, wpAny_pure h⟩))) htake)
   | exact wpAny_bind (wpAny_bind (m := Builtin.Tuple.tupleExact _) (wpAny_newObj_type (wpAny_pure (wpAny_pure ⟨_, rfl, wpAny_pure h⟩)) htake))
   | exact wpAny_bind (wpAny_bind (m := Builtin.Tuple.tupleExact _) (wpAny_newObj_type (wpAny_pure ⟨_, rfl, wpAny_pure h⟩) htake))
end
end HT
namespace L2
open PySem PySem.Spec PyProof.Rows
noncomputable abbrev TO := St → Hp → (Option Int → Hp → Prop) → Prop
noncomputable def PO (X : Cx) (e : Option Expr) (t : TO) : Prop :=
 ∀ (pins : List (Addr × Obj)) (s : Shared) (σ : St) (H : Hp) (Q : Option Int → Hp → Prop), Inv X pins σ H s → t σ H Q →
   wpAny (model X.prog X.w) X.A (evalPart e X.env) (fun u s' => ∃ o H', Inv X pins σ H' s' ∧ IsPart u o ∧ Q o H') X.xe s
noncomputable def tNoPart : TO := fun _ H Q => Q none H
noncomputable def tPart (t : TE) : TO := fun σ H Q => t σ H fun x H1 => ∃ i, x = .int i ∧ Q (some i) H1
theorem intsAre_of {ns : List Int} : ∀ {us : List Value}, Vals (ns.map V.int) us → IntsAre us ns := by
 induction ns with
 | nil => intro us r; rw [List.map_nil] at r; cases r; exact .nil
 | cons n ns ih =>
   intro us r
   rw [List.map_cons] at r
   cases r with
   | cons r1 r2 =>
     obtain ⟨t, e⟩ := r1
     subst e
     exact .cons n t (ih r2)
section
variable {X : Cx} {e : Expr} {te : TE} {lo hi : Option Expr} {tl th : TO} {pos p2 : Pos}
theorem po_none : PO X none tNoPart := by
 intro pins s σ H Q I h
 rw [evalPart_none]
 exact wpAny_pure ⟨none, H, I, .none, h⟩
theorem po_some (h : PE X e te) : PO X (some e) (tPart te) := by
 intro pins s σ H Q I hw
 rw [evalPart_some]
 refine thn (h pins s σ H _ I hw) fun u s1 ⟨x, H1, I1, r1, q1⟩ => ?_
 obtain ⟨i, rfl, q⟩ := q1
 obtain ⟨t, rfl⟩ := r1
 exact ⟨some i, H1, I1, .int i t, q⟩
noncomputable def SlR (X : Cx) (r : V → Option Int → Option Int → Hp → VK → Prop) : Prop :=
 ∀ (pins : List (Addr × Obj)) (s : Shared) (σ : St) (H : Hp) (x : V) (v vl vu : Value) (lo hi : Option Int) (sl : Addr) (Q : VK), Inv X pins σ H s → RelV x v → s.heap.IsSliceOf sl vl vu .none → IsPart vl lo → IsPart vu hi → r x lo hi H Q →
   ∃ T id, typeLookup (.type T) "__getitem__" = pure (some (.builtin id)) ∧ s.TypeIs v T ∧ wpAny (model X.prog X.w) X.A (getItem v (.ref sl)) (EP X pins σ Q) X.xe s
theorem SlR.or {r r' : V → Option Int → Option Int → Hp → VK → Prop} (h : SlR X r) (h' : SlR X r') : SlR X (fun x lo hi H Q => r x lo hi H Q ∨ r' x lo hi H Q) := by
 intro pins s σ H x v vl vu lo hi sl Q I rx hs pl pu q
 rcases q with q | q
 · exact h pins s σ H x v vl vu lo hi sl Q I rx hs pl pu q
 · exact h' pins s σ H x v vl vu lo hi sl Q I rx hs pl pu q
noncomputable def tSl (r : V → Option Int → Option Int → Hp → VK → Prop) (te : TE) (tl th : TO) : TE := fun σ H Q => te σ H fun x H1 => tl σ H1 fun l H2 => th σ H2 fun u H3 => r x l u H3 Q
theorem pe_slice {r : V → Option Int → Option Int → Hp → VK → Prop} (hr : SlR X r) (he : PE X e te) (hl : PO X lo tl) (hu : PO X hi th) : PE X (.Subscript e (.Slice lo hi none p2) pos) (tSl r te tl th) := by
 intro pins s σ H Q I h
 refine Subscript_ (thn (he pins s σ H _ I h) fun v s1 ⟨x, H1, I1, r1, q1⟩ => ?_)
 refine wpAny_Slice (thn (hl pins s1 σ H1 _ I1 q1) fun vl s2 ⟨l, H2, I2, pl, q2⟩ => thn (hu pins s2 σ H2 _ I2 q2) fun vu s3 ⟨u, H3, I3, pu, q3⟩ => ?_)
 rw [evalPart_none]
 refine wpAny_pure ?_
 have I4 : Inv X pins σ H3 { s3 with heap := s3.heap.push { cls := .type "slice", data := .fields #[vl, vu, .none] } } := I3.kept (t' := s3.toks) fun b ob q => Heap.get?_push_of_some _ q
 obtain ⟨T, id, hT, ht, hg⟩ := hr pins { s3 with heap := s3.heap.push { cls := .type "slice", data := .fields #[vl, vu, .none] } } σ H3 x v vl vu l u s3.heap.objs.size Q I4 r1 (Heap.IsSliceOf.new ..) pl pu q3
 show wpAny (model X.prog X.w) X.A (subscriptTail e (.Slice lo hi none p2) v (.ref s3.heap.objs.size)) (EP X pins σ Q) X.xe { s3 with heap := s3.heap.push { cls := .type "slice", data := .fields #[vl, vu, .none] } }
 exact tail_any (ops := [.ref s3.heap.objs.size, v]) ht hT hg (by with_unfolding_all rfl)
noncomputable def cutV (xs : List V) (lo hi : Option Int) : List V := (xs.drop (HT.sIx xs.length 0 lo)).take (HT.sIx xs.length xs.length hi - HT.sIx xs.length 0 lo)
theorem cutV_length (xs : List V) (lo hi : Option Int) : (cutV xs lo hi).length ≤ xs.length := by
 unfold cutV
 rw [List.length_take, List.length_drop]
 lia
noncomputable def rSlT (K : PySem.W.Frag) : V → Option Int → Option Int → Hp → VK → Prop := fun x lo hi H Q => ∃ a xs, x = .ref a ∧ SqT K H a xs ∧
 ¬ (HT.sIx xs.length 0 lo = 0 ∧ HT.sIx xs.length xs.length hi = xs.length) ∧ ∀ p, H p = none → Q (.ref p) (upd H p (.tup (cutV xs lo hi)))
theorem sl_tup : SlR X (rSlT X.K) := by
 intro pins s σ H x v vl vu lo hi sl Q I rx hs pl pu h
 obtain ⟨a, xs, rfl, hx, hw, q⟩ := h
 cases rx
 obtain ⟨its, r, ht, hz⟩ := I.tuple hx
 have hlen : its.toArray.size = xs.length := by rw [List.size_toArray]; exact r.length.symm
 refine ⟨"tuple", _, PyProof.Rows.slot_tuple_getitem.lookup, ht.typeIs, ?_⟩
 refine HT.getItem_tuple_cut ht hs pl pu (by rw [hlen]; exact hw) ?_ (by rw [hlen]; exact hz)
 rw [hlen]
 refine ⟨.ref s.heap.objs.size, _, I.laid (t' := s.toks) (o := .tup (cutV xs lo hi)) (fun b ob q => Heap.get?_push_of_some _ q) (Nat.le_refl _) ?_, rfl, q _ (I.hok.fresh (Nat.le_refl _))⟩
 exact ⟨Nat.le_trans (cutV_length xs lo hi) hz, _, (r.drop (HT.sIx xs.length 0 lo)).take (HT.sIx xs.length xs.length hi - HT.sIx xs.length 0 lo), IsTup0.new _ _⟩
noncomputable def rCatT (K : PySem.W.Frag) : R2 := fun x y H Q => ∃ a b xs ys, x = .ref a ∧ y = .ref b ∧ SqT K H a xs ∧ SqT K H b ys ∧ xs ≠ [] ∧ xs.length + ys.length ≤ sizeLine ∧
 (ys = [] → Q (.ref a) H) ∧ (ys ≠ [] → ∀ p, H p = none → Q (.ref p) (upd H p (.tup (xs ++ ys))))
theorem Vals.nil_iff {xs : List V} {us : List Value} (r : Vals xs us) : us = [] ↔ xs = [] := by
 cases r with
 | nil => simp
 | cons _ _ => simp
theorem op_catT : OpR X (binaryOp .Add) (rCatT X.K) := by
 intro pins s σ H x y v u Q I rx ry h
 obtain ⟨a, b, xs, ys, rfl, rfl, ha, hb, hx, hz, q1, q2⟩ := h
 cases rx
 cases ry
 obtain ⟨its, r1, p1, _⟩ := I.tuple ha
 obtain ⟨its2, r2, p2, _⟩ := I.tuple hb
 refine HT.cat_tup p1 p2 (fun z => hx (r1.nil_iff.mp z)) (fun z => ⟨.ref a, H, I, rfl, q1 (r2.nil_iff.mp z)⟩) (fun z => ?_) (by rw [← r1.length, ← r2.length]; exact hz)
 refine ⟨.ref s.heap.objs.size, _, I.laid (t' := s.toks) (o := .tup (xs ++ ys)) (fun b ob q => Heap.get?_push_of_some _ q) (Nat.le_refl _) ?_, rfl, q2 (fun w => z (r2.nil_iff.mpr w)) _ (I.hok.fresh (Nat.le_refl _))⟩
 exact ⟨by rw [List.length_append]; exact hz, _, r1.append r2, IsTup0.new _ _⟩
end
end L2
namespace L2
open PySem PySem.Spec PyProof.Rows
noncomputable def ixN (n : Nat) (i : Int) : Option Nat := if 0 ≤ i then (if i < n then some i.toNat else none) else if -(n : Int) ≤ i then some (i + n).toNat else none
noncomputable def atI {α : Type} (xs : List α) (i : Int) : Option α := (ixN xs.length i).bind fun j => xs[j]?
theorem ixN_seq {n : Nat} {i : Int} {j : Nat} (h : ixN n i = some j) : seqIndex? i n = some j ∧ j < n ∧ -(n : Int) ≤ i ∧ i < n := by
 unfold ixN at h
 by_cases h0 : 0 ≤ i
 · rw [if_pos h0] at h
   by_cases h1 : i < n
   · rw [if_pos h1] at h
     have e : i.toNat = j := Option.some.inj h
     exact ⟨by rw [seqIndex_of h0 h1, e], by lia, by lia, h1⟩
   · rw [if_neg h1] at h; cases h
 · rw [if_neg h0] at h
   by_cases h1 : -(n : Int) ≤ i
   · rw [if_pos h1] at h
     have e : (i + n).toNat = j := Option.some.inj h
     exact ⟨by rw [seqIndex_neg (by lia) h1, e], by lia, h1, by lia⟩
   · rw [if_neg h1] at h; cases h
theorem atI_get {α : Type} {xs : List α} {i : Int} {v : α} (h : atI xs i = some v) : ∃ j, seqIndex? i xs.length = some j ∧ xs[j]? = some v ∧ j < xs.length ∧ -(xs.length : Int) ≤ i ∧ i < xs.length := by
 unfold atI at h
 cases e : ixN xs.length i with
 | none => rw [e] at h; cases h
 | some j =>
   rw [e] at h
   obtain ⟨h1, h2, h3, h4⟩ := ixN_seq e
   exact ⟨j, h1, h, h2, h3, h4⟩
theorem atI_nat {α : Type} {xs : List α} {j : Nat} {v : α} (h : xs[j]? = some v) : atI xs (j : Int) = some v := by
 have hj : j < xs.length := (List.getElem?_eq_some_iff.mp h).1
 have e : ixN xs.length (j : Int) = some j := by
   unfold ixN
   rw [if_pos (by lia), if_pos (by lia)]; simp
 unfold atI; rw [e]; exact h
theorem atI_last {α : Type} (xs : List α) (v : α) : atI (xs ++ [v]) (-1) = some v := by
 have hl : (xs ++ [v]).length = xs.length + 1 := by simp
 have e : ixN (xs ++ [v]).length (-1) = some xs.length := by
   unfold ixN
   rw [hl, if_neg (by decide), if_pos (by lia)]
   congr 1
   lia
 unfold atI
 rw [e]
 show (xs ++ [v])[xs.length]? = some v
 simp
noncomputable def PlainIx (b : Expr) : Prop := ∀ o i, subscripted b false o i = operate [o, i] (getItem o i)
noncomputable def IxR (X : Cx) (r : R2) : Prop :=
 ∀ (value slice : Expr) (pins : List (Addr × Obj)) (s : Shared) (σ : St) (H : Hp) (x y : V) (v u : Value) (Q : VK), Inv X pins σ H s → RelV x v → RelV y u → r x y H Q →
   subscripted slice false v u = operate [v, u] (getItem v u) → wpAny (model X.prog X.w) X.A (subscriptTail value slice v u) (EP X pins σ Q) X.xe s
noncomputable def MtR (X : Cx) (id : String) (r : V → List V → Hp → VK → Prop) : Prop :=
 ∀ (pins : List (Addr × Obj)) (s : Shared) (σ : St) (H : Hp) (x : V) (xs : List V) (v : Value) (us : List Value) (Q : VK), Inv X pins σ H s → RelV x v → Vals xs us → r x xs H Q →
   wpAny (model X.prog X.w) X.A (call (.builtin id) (v :: us)) (EP X pins σ Q) X.xe s
section
variable {X : Cx} {a b : Expr} {ta tb : TE} {pos : Pos}
theorem pe_ix {r : R2} (hr : IxR X r) (ha : PE X a ta) (hb : PE X b tb) (hs : PlainIx b) : PE X (.Subscript a b pos) (tOp r ta tb) := by
 intro pins s σ H Q I h
 exact Subscript_ (binT ha hb I h fun v u s2 x y H2 I2 rx ry q => hr a b pins s2 σ H2 x y v u Q I2 rx ry q (hs _ _))
noncomputable def rIxL (K : PySem.W.Frag) : R2 := fun x y H Q => ∃ p xs i v, x = .ref p ∧ y = .int i ∧ SqL K H p xs ∧ atI xs i = some v ∧ Q v H
noncomputable def rIxT (K : PySem.W.Frag) : R2 := fun x y H Q => ∃ p xs i v, x = .ref p ∧ y = .int i ∧ SqT K H p xs ∧ atI xs i = some v ∧ Q v H
noncomputable def rIxS : R2 := fun x y H Q => ∃ z i c, x = .str z ∧ y = .int i ∧ z.length ≤ sizeLine ∧ atI z.cps.toList i = some c ∧ Q (.str ⟨#[c]⟩) H
theorem ix_list : IxR X (rIxL X.K) := by
 intro value slice pins s σ H x y v u Q I rx ry h hs
 obtain ⟨p, xs, i, z, rfl, rfl, hq, he, q⟩ := h
 cases rx
 obtain ⟨t, rfl⟩ := ry
 obtain ⟨its, r, pl, hz⟩ := I.list hq
 obtain ⟨j, h1, h2, h3, h4, h5⟩ := atI_get he
 obtain ⟨w, ew, rw'⟩ := r.get h2
 have hl := r.length
 have hn := line63
 have fin : EP X pins σ Q w s := ⟨z, H, I, rw', q⟩
 by_cases h0 : 0 ≤ i
 · have hj : i.toNat = j := by
     rw [seqIndex_of h0 h5] at h1
     exact Option.some.inj h1
   exact item_listR pl.isList h0 (by lia) (by rw [hj]; simpa using ew) fin hs
 · have hj : (i + (its.toArray.size : Int)).toNat = j := by
     rw [seqIndex_neg (by lia) h4] at h1
     rw [List.size_toArray, ← hl]
     exact Option.some.inj h1
   exact subscriptTail_builtinR (x := w) pl.isList.typeIs slot_list_getitem.lookup
     (wpAny_getItem_list_neg (Q := fun r s' => r = w ∧ EP X pins σ Q r s') pl.isList (by lia) (by rw [List.size_toArray] <;> lia) (by lia) (by rw [hj]; simpa using ew) ⟨rfl, fin⟩) hs
theorem ix_tup : IxR X (rIxT X.K) := by
 intro value slice pins s σ H x y v u Q I rx ry h hs
 obtain ⟨p, xs, i, z, rfl, rfl, hq, he, q⟩ := h
 cases rx
 obtain ⟨t, rfl⟩ := ry
 obtain ⟨its, r, pl, hz⟩ := I.tuple hq
 obtain ⟨j, h1, h2, h3, h4, h5⟩ := atI_get he
 obtain ⟨w, ew, rw'⟩ := r.get h2
 have hl := r.length
 have hn := line63
 have fin : EP X pins σ Q w s := ⟨z, H, I, rw', q⟩
 exact subscriptTail_builtinR (x := w) pl.typeIs slot_tuple_getitem.lookup
   (getItem_tuple (j := j) (Q := fun r s' => r = w ∧ EP X pins σ Q r s') pl (by lia) (by lia) (by rw [List.size_toArray, ← hl]; exact h1) (by simpa using ew) ⟨rfl, fin⟩) hs
theorem ix_str : IxR X rIxS := by
 intro value slice pins s σ H x y v u Q I rx ry h hs
 obtain ⟨z, i, c, rfl, rfl, hz, he, q⟩ := h
 obtain ⟨t, rfl⟩ := rx
 obtain ⟨t', rfl⟩ := ry
 obtain ⟨j, h1, h2, h3, h4, h5⟩ := atI_get he
 have hl : z.cps.toList.length = z.length := by simp [Str.length]
 rw [hl] at h1 h4 h5
 have hn := line63
 exact tail_any (typeIs_str s z t) slot_str_getitem.lookup (getItem_str (c := c) (by
   have e1 : decide (i < -(2 ^ 63 : Int)) = false := decide_eq_false (by lia)
   have e2 : decide (i ≥ 2 ^ 63) = false := decide_eq_false (by lia)
   rw [e1, e2, Bool.or_false]) (by rw [h1]; simpa using h2) ⟨.str ⟨#[c]⟩, H, I.tok _, ⟨_, rfl⟩, q⟩) hs
theorem mapSeq_set (its : List Value) (n j : Nat) (u : Value) : Obj.mapSeq (·.setIfInBounds j u) { cls := .type "list", data := .seq its.toArray n } = { cls := .type "list", data := .seq (its.set j u).toArray n } := by
 simp [Obj.mapSeq]
theorem Inv.lst {pins : List (Addr × Obj)} {σ : St} {H : Hp} {s : Shared} {p : Addr} {xs : List V} (I : Inv X pins σ H s) (h : H p = some (.lst xs)) :
   ∃ (its : List Value) (n : Nat), Vals xs its ∧ s.heap.get? p = some { cls := .type "list", data := .seq its.toArray n } ∧ xs.length ≤ sizeLine := by
 obtain ⟨z, its, n, r, e⟩ := I.hok p _ h
 exact ⟨its, n, r, e, z⟩
theorem Inv.lstUpd {pins : List (Addr × Obj)} {σ : St} {H : Hp} {s : Shared} {p : Addr} {xs ys : List V} {its its' : List Value} {n n' : Nat} {f : Obj → Obj} (I : Inv X pins σ H s) (h : H p = some (.lst xs))
   (ho : s.heap.get? p = some { cls := .type "list", data := .seq its.toArray n }) (hf : f { cls := .type "list", data := .seq its.toArray n } = { cls := .type "list", data := .seq its'.toArray n' }) (r : Vals ys its') (hz : ys.length ≤ sizeLine) (t : Nat) :
   Inv X pins σ (upd H p (.lst ys)) { s with heap := s.heap.update p f, toks := t } := by
 have e : (s.heap.update p f).get? p = some { cls := .type "list", data := .seq its'.toArray n' } := by
   rw [Heap.get?_update_self f ho (by rw [hf] <;> rfl), hf]
 refine I.write (x := p) (e := p) (by rw [h]; trivial) (.inl rfl) (fun b u hb q => (Heap.get?_update_other _ _ (Ne.symm hb)).trans q) ⟨_, e⟩ ?_
 exact ⟨hz, its', n', r, e⟩
noncomputable def rSetL : V → V → V → Hp → (Hp → Prop) → Prop := fun o i v H Q => ∃ p xs k j, o = .ref p ∧ i = .int k ∧ H p = some (.lst xs) ∧ ixN xs.length k = some j ∧ Q (upd H p (.lst (xs.set j v)))
theorem set_list : PSet X rSetL := by
 intro pins s σ H o i v ov iv u Q I ro ri rv h
 obtain ⟨p, xs, k, j, rfl, rfl, hp, hj, q⟩ := h
 cases ro
 obtain ⟨t, rfl⟩ := ri
 obtain ⟨its, n, r, ho, hz⟩ := I.lst hp
 obtain ⟨h1, h2, h3, h4⟩ := ixN_seq hj
 have hl := r.length
 have hn := line63
 have I' : Inv X pins σ (upd H p (.lst (xs.set j v))) { s with heap := s.heap.update p (Obj.mapSeq (·.setIfInBounds j u)) } :=
   I.lstUpd hp ho (mapSeq_set its n j u) (r.set rv j) (by rw [List.length_set]; exact hz) s.toks
 by_cases h0 : 0 ≤ k
 · have hk : k.toNat = j := by
     rw [seqIndex_of h0 h4] at h1
     exact Option.some.inj h1
   exact PySem.W.ki_setAt ho h0 (by lia) (by rw [List.size_toArray, ← hl]; exact h4) (by rw [hk]; exact ⟨_, I', q⟩)
 · have hk : (k + (its.toArray.size : Int)).toNat = j := by
     rw [seqIndex_neg (by lia) h3] at h1
     rw [List.size_toArray, ← hl]
     exact Option.some.inj h1
   exact PySem.W.ki_setBack ho (by lia) (by rw [List.size_toArray, ← hl]; exact h3) (by lia) (by rw [hk]; exact ⟨_, I', q⟩)
theorem slice_bounds (lo hi : Option Int) (n : Nat) : (sliceBounds lo hi none n).1 = ((HT.sIx n 0 lo : Nat) : Int) ∧ (sliceBounds lo hi none n).2.1 = ((HT.sIx n n hi : Nat) : Int) ∧ (sliceBounds lo hi none n).2.2 = 1 := by
 refine ⟨?_, ?_, rfl⟩
 · cases lo with
   | none => simp [sliceBounds, HT.sIx]
   | some i =>
     simp only [sliceBounds, HT.sIx, Option.getD_none, show (1 : Int) > 0 by decide, if_true]
     by_cases h : i < 0
     · simp only [h, if_true] <;> lia
     · simp only [h, if_false] <;> lia
 · cases hi with
   | none => simp [sliceBounds, HT.sIx]
   | some i =>
     simp only [sliceBounds, HT.sIx, Option.getD_none, show (1 : Int) > 0 by decide, if_true]
     by_cases h : i < 0
     · simp only [h, if_true] <;> lia
     · simp only [h, if_false] <;> lia
theorem slicePick_cut (its : List Value) (lo hi : Option Int) : slicePick its.toArray lo hi none = ((its.drop (HT.sIx its.length 0 lo)).take (HT.sIx its.length its.length hi - HT.sIx its.length 0 lo)).toArray := by
 obtain ⟨h1, h2, h3⟩ := slice_bounds lo hi its.toArray.size
 unfold slicePick
 rw [h1, h2, h3]
 simp only [sliceRange_one, pick_run, List.size_toArray] <;> rfl
noncomputable def rSlL (K : PySem.W.Frag) : V → Option Int → Option Int → Hp → VK → Prop := fun x lo hi H Q => ∃ a xs, x = .ref a ∧ SqL K H a xs ∧ ∀ p, H p = none → Q (.ref p) (upd H p (.lst (cutV xs lo hi)))
theorem sl_list : SlR X (rSlL X.K) := by
 intro pins s σ H x v vl vu lo hi sl Q I rx hs pl pu h
 obtain ⟨a, xs, rfl, hx, q⟩ := h
 cases rx
 obtain ⟨its, r, ht, hz⟩ := I.list hx
 have hlen := r.length
 refine ⟨"list", _, slot_list_getitem.lookup, ht.isList.typeIs, ?_⟩
 refine wpAny_getItem_list_slice ht.isList hs pl pu .none (by simp) ?_ (by rw [List.size_toArray] <;> lia)
 rw [slicePick_cut, ← hlen]
 refine ⟨.ref s.heap.objs.size, _, I.laid (t' := s.toks) (o := .lst (cutV xs lo hi)) (fun b ob q => Heap.get?_push_of_some _ q) (Nat.le_refl _) ?_, rfl, q _ (I.hok.fresh (Nat.le_refl _))⟩
 exact ⟨Nat.le_trans (cutV_length xs lo hi) hz, _, 0, (r.drop (HT.sIx xs.length 0 lo)).take (HT.sIx xs.length xs.length hi - HT.sIx xs.length 0 lo), Heap.get?_push_size _ rfl⟩
theorem call_len_seq : CallR X (.builtin "len") (fun xs H Q => ∃ p ys, xs = [.ref p] ∧ (SqL X.K H p ys ∨ SqT X.K H p ys) ∧ Q (.int ys.length) H) := by
 intro pins s σ H xs us Q I r h
 obtain ⟨p, ys, rfl, hq, q⟩ := h
 obtain ⟨u, rfl, rx⟩ := vals1 r
 cases rx
 have hn := line63
 rcases hq with hq | hq
 · obtain ⟨its, r', pl, hz⟩ := I.list hq
   have hlen := r'.length
   exact Calls.call_len_list pl.isList (by simp only [List.size_toArray] <;> lia) ⟨.int ys.length, H, I.tok _, ⟨s.toks + 1, by rw [List.size_toArray, hlen]⟩, q⟩
 · obtain ⟨its, r', pl, hz⟩ := I.tuple hq
   have hlen := r'.length
   exact len_tuple pl (by simp only [List.size_toArray] <;> lia) ⟨.int ys.length, H, I.tok _, ⟨s.toks + 1, by rw [List.size_toArray, hlen]⟩, q⟩
theorem call_len_str : CallR X (.builtin "len") (fun xs H Q => ∃ z, xs = [.str z] ∧ z.length ≤ sizeLine ∧ Q (.int z.length) H) := by
 intro pins s σ H xs us Q I r h
 obtain ⟨z, rfl, hz, q⟩ := h
 obtain ⟨u, rfl, t, rfl⟩ := vals1 r
 have hn := line63
 exact len_str (by lia) ⟨.int z.length, H, I.tok _, ⟨_, rfl⟩, q⟩
theorem call_list_of : CallR X (.type "list") (fun xs H Q => ∃ p ys, xs = [.ref p] ∧ (SqL X.K H p ys ∨ SqT X.K H p ys) ∧ ∀ l, H l = none → Q (.ref l) (upd H l (.lst ys))) := by
 intro pins s σ H xs us Q I r h
 obtain ⟨p, ys, rfl, hq, q⟩ := h
 obtain ⟨u, rfl, rx⟩ := vals1 r
 cases rx
 have fin : ∀ (its : List Value), Vals ys its → ys.length ≤ sizeLine → ∀ (h' : Heap) (c' : Nat), (∀ b o', s.heap.get? b = some o' → h'.get? b = some o') →
     h'.get? s.heap.objs.size = some { cls := .type "list", dict := none, data := .seq its.toArray c', slots := #[] } → EP X pins σ Q (.ref s.heap.objs.size) { s with heap := h' } := fun its r' hz h' c' kp e =>
   ⟨.ref s.heap.objs.size, _, I.laid (t' := s.toks) kp (Nat.le_refl _) (show ObjOk X.prog X.w _ h' _ (.lst ys) from ⟨hz, its, c', r', e⟩), rfl, q _ (I.hok.fresh (Nat.le_refl _))⟩
 rcases hq with hq | hq
 · obtain ⟨its, r', pl, hz⟩ := I.list hq
   have hlen := r'.length
   obtain ⟨o, ho, hc, n, hd⟩ := pl.isList
   exact call_list_seq p (.inl rfl) ho hc hd (fun h' c' kp e => fin its r' hz h' c' kp e) (by simp only [List.size_toArray] <;> lia)
 · obtain ⟨its, r', pl, hz⟩ := I.tuple hq
   have hlen := r'.length
   obtain ⟨o, ho, hc, n, hd⟩ := pl
   exact call_list_seq p (.inr rfl) ho hc hd (fun h' c' kp e => fin its r' hz h' c' kp e) (by simp only [List.size_toArray] <;> lia)
theorem call_tuple_of : CallR X (.type "tuple") (fun xs H Q => ∃ p ys, xs = [.ref p] ∧ ((SqL X.K H p ys ∧ ∀ l, H l = none → Q (.ref l) (upd H l (.tup ys))) ∨ (SqT X.K H p ys ∧ Q (.ref p) H))) := by
 intro pins s σ H xs us Q I r h
 obtain ⟨p, ys, rfl, h⟩ := h
 obtain ⟨u, rfl, rx⟩ := vals1 r
 cases rx
 rcases h with ⟨hq, q⟩ | ⟨hq, q⟩
 · obtain ⟨its, r', pl, hz⟩ := I.list hq
   have hlen := r'.length
   refine call_tuple_list pl.isList (fun h' kp => ?_) (by simp only [List.size_toArray] <;> lia)
   have I1 : Inv X pins σ H { s with heap := h' } := I.kept (t' := s.toks) kp
   have I2 : Inv X pins σ (upd H h'.objs.size (.tup ys)) { s with heap := h'.push { cls := .type "tuple", data := .seq its.toArray } } :=
     I1.laid (t' := s.toks) (fun b o e => Heap.get?_push_of_some _ e) (Nat.le_refl _) (show ObjOk X.prog X.w _ _ _ (.tup ys) from ⟨hz, its, r', IsTup0.new _ _⟩)
   exact ⟨.ref h'.objs.size, _, I2, rfl, q _ (I1.hok.fresh (Nat.le_refl _))⟩
 · obtain ⟨its, r', pl, hz⟩ := I.tuple hq
   exact call_tuple_same pl ⟨.ref p, H, I, rfl, q⟩
noncomputable def tyV (K : PySem.W.Frag) (T : String) (x : V) (H : Hp) : Prop := match x with
 | .str _ => T = "str"
 | .int _ => T = "int"
 | .ref p => (T = "list" ∧ ∃ xs, SqL K H p xs) ∨ (T = "tuple" ∧ ∃ o, K.lookup p = some o ∧ o.cls = .type "tuple" ∧ o.dict = none) ∨
     (T = "dict" ∧ ((∃ kvs, H p = some (.dK kvs)) ∨ ∃ kvs, H p = some (.dT kvs))) ∨ (T = "set" ∧ ∃ S n, H p = some (.set S n))
 | _ => False
theorem tyV_is {pins : List (Addr × Obj)} {σ : St} {H : Hp} {s : Shared} {T : String} {x : V} {v : Value} (I : Inv X pins σ H s) (r : RelV x v) (ty : tyV X.K T x H) :
   s.TypeIs v T ∧ ∀ a, v = .ref a → ∃ ob, s.heap.get? a = some ob ∧ ob.dict = none := by
 cases x with
 | str z =>
   obtain ⟨t, rfl⟩ := r
   cases (show T = "str" from ty)
   exact ⟨typeIs_str s z t, fun _ e => nomatch e⟩
 | int i =>
   obtain ⟨t, rfl⟩ := r
   cases (show T = "int" from ty)
   exact ⟨typeIs_int s i t, fun _ e => nomatch e⟩
 | ref p =>
   cases r
   rcases ty with ⟨rfl, xs, hq⟩ | ⟨rfl, o, hk, hc, hd⟩ | ⟨rfl, hk⟩ | ⟨rfl, S, n, hk⟩
   · obtain ⟨its, _, pl, _⟩ := I.list hq
     refine ⟨pl.isList.typeIs, fun a e => ?_⟩
     cases e
     obtain ⟨o, n, e, c, hd, _⟩ := pl
     exact ⟨o, e, hd⟩
   · refine ⟨⟨o, I.kIn p o hk, hc⟩, fun a e => ?_⟩
     cases e
     exact ⟨o, I.kIn _ o hk, hd⟩
   · have z : ∃ o, s.heap.get? p = some o ∧ o.ExactDict := by
       rcases hk with ⟨kvs, hk⟩ | ⟨kvs, hk⟩
       · obtain ⟨_, _, _, _, o, _, _, e, ex, _⟩ := I.hok p _ hk
         exact ⟨o, e, ex⟩
       · obtain ⟨_, _, _, _, o, _, _, e, ex, _⟩ := I.hok p _ hk
         exact ⟨o, e, ex⟩
     obtain ⟨o, e, ex⟩ := z
     refine ⟨⟨o, e, ex.1⟩, fun a e2 => ?_⟩
     cases e2
     exact ⟨o, e, ex.2.1⟩
   · obtain ⟨o, _, _, _, e, ex, _⟩ := I.hok p _ hk
     refine ⟨⟨o, e, ex.1⟩, fun a e2 => ?_⟩
     cases e2
     exact ⟨o, e, ex.2.1⟩
 | _ => exact False.elim ty
noncomputable def tBM0 (K : PySem.W.Frag) (T : String) (r : V → List V → Hp → VK → Prop) (to : TE) : TE := fun σ H Q => to σ H fun x H1 => tyV K T x H1 ∧ r x [] H1 Q
noncomputable def tBM (K : PySem.W.Frag) (T : String) (r : V → List V → Hp → VK → Prop) (to : TE) (t : TA) : TE := fun σ H Q => to σ H fun x H1 => tyV K T x H1 ∧ t σ H1 fun xs H2 => r x xs H2 Q
variable {o e : Expr} {es : List Expr} {to : TE} {t : TA} {name : Str} {apos cpos : Pos} {T id : String} {r : V → List V → Hp → VK → Prop}
theorem pe_bm0 (pa : PlainAttrs T) (slot : Slot T name id) (hty : typeOf (.builtin id) = pure (.type "method_descriptor")) (hm : MtR X id r) (ho : PE X o to)
   (hbase : attributeBase o name X.env (eval o X.env) = eval o X.env := by rfl) (hline : (apos.endLine == cpos.line) = true := by rfl) : PE X (.Call (.Attribute o name apos) [] [] cpos) (tBM0 X.K T r to) := by
 intro pins s σ H Q I h
 refine wpAny_Call_method0_late hbase hline (thn (ho pins s σ H _ I h) fun v s1 ⟨x, H1, I1, r1, ty, q1⟩ => ?_)
 obtain ⟨h1, h2⟩ := tyV_is I1 r1 ty
 exact ⟨T, id, pa, slot, hty, h1, h2, Calls.callWith_builtin rfl (PySem.evalArgs_none (hm pins s1 σ H1 x [] v [] Q I1 r1 .nil q1))⟩
theorem pe_bm (pa : PlainAttrs T) (slot : Slot T name id) (hty : typeOf (.builtin id) = pure (.type "method_descriptor")) (hm : MtR X id r) (ho : PE X o to) (ha : PA X (e :: es) t)
   (hbase : attributeBase o name X.env (eval o X.env) = eval o X.env := by rfl)
   (hfew : ((backTo cpos (starEach (e :: es) X.env)).all (fun x => !x.1) && (backToKw cpos (keywordEach [] X.env)).all (fun x => x.1.isSome)
     && decide ((e :: es).length + ([] : List Keyword).length + (if ([] : List Keyword).isEmpty then 0 else 1) < 30)) = true := by rfl)
   (hline : (apos.endLine == cpos.line) = true := by rfl) (hs : starEach (e :: es) X.env = (false, eval e X.env) :: starEach es X.env := by rfl) (hplain : (backTo cpos (starEach es X.env)).any (·.1) = false := by rfl) :
   PE X (.Call (.Attribute o name apos) (e :: es) [] cpos) (tBM X.K T r to t) := by
 intro pins s σ H Q I h
 refine wpAny_Call_method_late hbase hfew hline rfl (thn (ho pins s σ H _ I h) fun v s1 ⟨x, H1, I1, r1, ty, q1⟩ => ?_)
 obtain ⟨h1, h2⟩ := tyV_is I1 r1 ty
 refine ⟨T, id, pa, slot, hty, h1, h2, ?_⟩
 have hA := ha cpos pins s1 σ H1 _ I1 q1
 rw [hs] at hA ⊢
 refine Calls.callWith_builtin (by show (false || (backTo cpos (starEach es X.env)).any (·.1)) = false; rw [hplain] <;> rfl) (Calls.evalArgs_plain ?_)
 exact thn hA fun us s2 ⟨vs, H2, I2, r2, q2⟩ => hm pins s2 σ H2 x vs v us Q I2 r1 r2 q2
end
end L2
namespace L2
open PySem PySem.Spec PyProof.Rows
noncomputable def MtM (X : Cx) (id : String) (r : V → List V → Hp → VK → Prop) : Prop :=
 ∀ (pins : List (Addr × Obj)) (s : Shared) (σ : St) (H : Hp) (x : V) (xs : List V) (v : Value) (us : List Value) (Q : VK), Inv X pins σ H s → RelV x v → Vals xs us → r x xs H Q →
   wpAny (model X.prog X.w) X.A (call (.builtin id) (v :: us)) (EP X pins σ Q) X.xe s
theorem Vals.one : ∀ {x : V} {us : List Value}, Vals [x] us → ∃ u, us = [u] ∧ RelV x u
 | _, _, .cons r .nil => ⟨_, rfl, r⟩
theorem Vals.zero : ∀ {us : List Value}, Vals [] us → us = []
 | _, .nil => rfl
theorem Vals.dropLast {xs : List V} {us : List Value} (h : Vals xs us) : Vals xs.dropLast us.dropLast := by
 induction h with
 | nil => exact .nil
 | cons r t ih =>
   cases t with
   | nil => exact .nil
   | cons q t' => exact .cons r ih
theorem Vals.reverse {xs : List V} {us : List Value} (h : Vals xs us) : Vals xs.reverse us.reverse := by
 induction h with
 | nil => exact .nil
 | cons r t ih => rw [List.reverse_cons, List.reverse_cons]; exact Vals.append ih (.cons r .nil)
theorem Vals.rep {xs : List V} {us : List Value} (h : Vals xs us) : ∀ k : Nat, Vals (List.replicate k xs).flatten (List.replicate k us).flatten
 | 0 => .nil
 | k + 1 => by
   rw [List.replicate_succ, List.replicate_succ, List.flatten_cons, List.flatten_cons]
   exact Vals.append h (Vals.rep h k)
theorem erase_last {α : Type} (l : List α) : l.eraseIdx (l.length - 1) = l.dropLast := by
 induction l with
 | nil => rfl
 | cons a r ih =>
   cases r with
   | nil => rfl
   | cons b r =>
     have e : (a :: b :: r).length - 1 = ((b :: r).length - 1) + 1 := by
       have h1 : (a :: b :: r).length = r.length + 2 := rfl
       have h2 : (b :: r).length = r.length + 1 := rfl
       lia
     rw [e, List.eraseIdx_cons_succ, ih]
     all_goals rfl
theorem foldl_rep (its : List Value) : ∀ (k : Nat) (acc : List Value),
   List.foldl (fun x1 x2 => x1 ++ x2) acc.toArray (List.replicate k its.toArray) = (acc ++ (List.replicate k its).flatten).toArray
 | 0, acc => by simp
 | k + 1, acc => by
   have e : acc.toArray ++ its.toArray = (acc ++ its).toArray := by simp
   have e2 : (acc ++ its) ++ (List.replicate k its).flatten = acc ++ (List.replicate (k + 1) its).flatten := by
     rw [List.replicate_succ, List.flatten_cons, List.append_assoc]
   rw [← e2, ← foldl_rep its k (acc ++ its), ← e, List.replicate_succ, List.foldl_cons]
section
variable {X : Cx} {pins : List (Addr × Obj)} {σ : St} {H : Hp} {s : Shared} {l b : Addr} {xs ys zs : List V}
theorem Inv.lset {its its' : List Value} {n : Nat} {f : Array Value → Array Value} {t' : Nat} (I : Inv X pins σ H s) (hH : H l = some (.lst xs))
   (e : s.heap.get? l = some { cls := .type "list", data := .seq its.toArray n }) (hf : f its.toArray = its'.toArray) (hv : Vals ys its') (hz : ys.length ≤ sizeLine) :
   Inv X pins σ (upd H l (.lst ys)) { s with heap := s.heap.update l (Obj.mapSeq f), toks := t' } := by
 have q := PySem.IsL.update e f
 rw [hf] at q
 refine I.write (x := l) (e := l) (by rw [hH]; exact trivial) (.inl rfl) (fun b' u hb hu => (Heap.get?_update_other s.heap (Obj.mapSeq f) (Ne.symm hb)).trans hu) ⟨_, q⟩ ?_
 exact ⟨hz, its', _, hv, q⟩
theorem Inv.lnew {its : List Value} {t' : Nat} (I : Inv X pins σ H s) (hv : Vals ys its) (hz : ys.length ≤ sizeLine) :
   Inv X pins σ (upd H s.heap.objs.size (.lst ys)) { s with heap := s.heap.push { cls := .type "list", data := .seq its.toArray }, toks := t' } :=
 I.laid (fun _ _ q => Heap.get?_push_of_some _ q) (Nat.le_refl _) ⟨hz, its, 0, hv, Heap.get?_push_size _ rfl⟩
theorem Inv.fresh (I : Inv X pins σ H s) : H s.heap.objs.size = none := I.hok.fresh (Nat.le_refl _)
theorem Inv.lstM (I : Inv X pins σ H s) (hH : H l = some (.lst xs)) : xs.length ≤ sizeLine ∧ ∃ (its : List Value) (n : Nat), Vals xs its ∧ xs.length = its.length ∧ s.heap.get? l = some { cls := .type "list", data := .seq its.toArray n } := by
 obtain ⟨z, its, n, r, e⟩ := I.hok l _ hH
 exact ⟨z, its, n, r, r.length, e⟩
theorem notLongL {n : Nat} (h : n ≤ sizeLine) : Builtin.List.listTooLong n = false := by
 unfold Builtin.List.listTooLong
 exact decide_eq_false (by lia)
end
section
variable {X : Cx}
noncomputable def rAppend : V → List V → Hp → VK → Prop := fun x vs H Q => ∃ l xs y, x = .ref l ∧ vs = [y] ∧ H l = some (.lst xs) ∧ xs.length < sizeLine ∧ Q .non (upd H l (.lst (xs ++ [y])))
theorem mt_append : MtM X "list.append" rAppend := by
 intro pins s σ H x vs v us Q I rx rv h
 obtain ⟨l, xs, y, rfl, rfl, hH, hz, q⟩ := h
 cases rx
 obtain ⟨u, rfl, ru⟩ := rv.one
 obtain ⟨z, its, n, r, hl, e⟩ := I.lstM hH
 refine call_meets F.slot_list_append ⟨_, e, rfl⟩ F.entry_list_append (F.args_list_append_2 _ _) (PySem.list_append l its.toArray n u (by rw [List.size_toArray]; lia)) ⟨e, ?_⟩
 refine ⟨.non, _, I.lset (its' := its ++ [u]) hH e (by simp) (r.append (.cons ru .nil)) ?_, rfl, q⟩
 rw [List.length_append, List.length_singleton]
 lia
noncomputable def rExtend : V → List V → Hp → VK → Prop := fun x vs H Q => ∃ l b xs zs, x = .ref l ∧ vs = [.ref b] ∧ H l = some (.lst xs) ∧ H b = some (.lst zs) ∧ xs.length + zs.length ≤ sizeLine ∧ Q .non (upd H l (.lst (xs ++ zs)))
theorem mt_extend : MtM X "list.extend" rExtend := by
 intro pins s σ H x vs v us Q I rx rv h
 obtain ⟨l, b, xs, zs, rfl, rfl, hH, hB, hz, q⟩ := h
 cases rx
 obtain ⟨u, rfl, ru⟩ := rv.one
 cases ru
 obtain ⟨z, its, n, r, hl, e⟩ := I.lstM hH
 obtain ⟨z2, its2, n2, r2, hl2, e2⟩ := I.lstM hB
 have hsz : its.toArray.size + its2.toArray.size ≤ sizeLine := by rw [List.size_toArray, List.size_toArray]; lia
 have hlong : ¬ (!its.toArray.isEmpty && Builtin.List.listTooLong (its.toArray.size + its2.toArray.size)) = true := by
   rw [notLongL hsz, Bool.and_false]
   exact Bool.false_ne_true
 refine call_meets F.slot_list_extend ⟨_, e, rfl⟩ F.entry_list_extend (F.args_list_extend_2 _ _)
   (AutoSeq1.list_extend_list_list_0 l its.toArray n b its2.toArray n2 hlong (by rw [List.size_toArray]; lia) (by lia)) ⟨e, e2, ?_⟩
 refine ⟨.non, _, I.lset (its' := its ++ its2) hH e (by simp) (r.append r2) ?_, rfl, q⟩
 rw [List.length_append]
 lia
noncomputable def rPop : V → List V → Hp → VK → Prop := fun x vs H Q => ∃ l xs y, x = .ref l ∧ vs = [] ∧ H l = some (.lst xs) ∧ xs[xs.length - 1]? = some y ∧ Q y (upd H l (.lst xs.dropLast))
theorem mt_pop : MtM X "list.pop" rPop := by
 intro pins s σ H x vs v us Q I rx rv h
 obtain ⟨l, xs, y, rfl, rfl, hH, hy, q⟩ := h
 cases rx
 have hus := rv.zero
 subst hus
 obtain ⟨z, its, n, r, hl, e⟩ := I.lstM hH
 obtain ⟨u, hu, ru⟩ := r.get hy
 have hy' : its.toArray[its.toArray.size - 1]? = some u := by
   show its.toArray[its.length - 1]? = some u
   rw [← Array.getElem?_toList, ← hl]
   exact hu
 refine call_meets F.slot_list_pop ⟨_, e, rfl⟩ F.entry_list_pop (F.args_list_pop_1 _) (MeetsSeq.list_pop_last l its.toArray n u hy' (by rw [List.size_toArray]; lia)) ⟨e, ?_⟩
 refine ⟨y, _, I.lset (its' := its.dropLast) hH e ?_ r.dropLast ?_, ru, q⟩
 · show its.toArray.eraseIdxIfInBounds (its.toArray.size - 1) = its.dropLast.toArray
   rw [List.size_toArray, List.eraseIdxIfInBounds_toArray, erase_last]
 · rw [List.length_dropLast]
   lia
noncomputable def rCat : R2 := fun x y H Q => ∃ l b xs zs, x = .ref l ∧ y = .ref b ∧ H l = some (.lst xs) ∧ H b = some (.lst zs) ∧ xs.length + zs.length ≤ sizeLine ∧ ∀ p, H p = none → Q (.ref p) (upd H p (.lst (xs ++ zs)))
theorem op_cat : OpR X (binaryOp .Add) rCat := by
 intro pins s σ H x y v u Q I rx ry h
 obtain ⟨l, b, xs, zs, rfl, rfl, hH, hB, hz, q⟩ := h
 cases rx
 cases ry
 obtain ⟨z, its, n, r, hl, e⟩ := I.lstM hH
 obtain ⟨z2, its2, n2, r2, hl2, e2⟩ := I.lstM hB
 refine PySem.P.add_list e e2 ?_ (by rw [List.size_toArray, List.size_toArray]; lia)
 have ea : its.toArray ++ its2.toArray = (its ++ its2).toArray := by simp
 rw [ea]
 exact ⟨.ref _, _, I.lnew (t' := s.toks) (r.append r2) (by rw [List.length_append]; lia), rfl, q _ I.fresh⟩
noncomputable def rRep : R2 := fun x y H Q => ∃ l k xs, x = .ref l ∧ y = .int k ∧ H l = some (.lst xs) ∧ -(2 ^ 63) ≤ k ∧ k < 2 ^ 63 ∧ xs.length * k.toNat ≤ sizeLine ∧
 ∀ p, H p = none → Q (.ref p) (upd H p (.lst (List.replicate k.toNat xs).flatten))
theorem len_rep {α : Type} (xs : List α) (k : Nat) : (List.replicate k xs).flatten.length = k * xs.length := by
 induction k with
 | zero => simp
 | succ k ih => rw [List.replicate_succ, List.flatten_cons, List.length_append, ih, Nat.succ_mul, Nat.add_comm]
theorem op_rep : OpR X (binaryOp .Mult) rRep := by
 intro pins s σ H x y v u Q I rx ry h
 obtain ⟨l, k, xs, rfl, rfl, hH, h1, h2, hz, q⟩ := h
 cases rx
 obtain ⟨t, rfl⟩ := ry
 obtain ⟨z, its, n, r, hl, e⟩ := I.lstM hH
 have hlen : its.toArray.size * k.toNat ≤ sizeLine := by rw [List.size_toArray, ← hl]; exact hz
 have hcap : ¬ its.toArray.size * k.toNat > (2 ^ 63 - 1) / 8 := by
   have : (sizeLine : Nat) ≤ (2 ^ 63 - 1) / 8 := by decide
   lia
 have hfit : ¬ (!Builtin.List.listFitsIndex k) = true := by
   rw [fitsIndex_both h1 h2]
   exact Bool.false_ne_true
 have hlong : ¬ Builtin.List.listTooLong (its.toArray.size * k.toNat) = true := by
   rw [notLongL hlen]
   exact Bool.false_ne_true
 have hnew : List.foldl (fun x1 x2 => x1 ++ x2) #[] (List.replicate (if its.toArray.isEmpty = true then 0 else k.toNat) its.toArray) = (List.replicate k.toNat its).flatten.toArray := by
   have f0 : ∀ m : Nat, List.foldl (fun x1 x2 => x1 ++ x2) #[] (List.replicate m its.toArray) = (List.replicate m its).flatten.toArray := fun m => by
     have := foldl_rep its m []
     rw [List.nil_append] at this
     exact this
   rw [f0]
   cases its with
   | nil => simp
   | cons a r' => rw [if_neg (by simp)]
 refine wpAny_binaryOp_repeat_ref (T := "list") (U := "int") (by decide) ⟨_, e, rfl⟩ (fun s' => typeIs_int s' k t) noFill_list_mul F.fills_int_mul F.slot_int_rmul repeat_list F.slot_int_index.lookup
   (call_meets F.slot_int_rmul (typeIs_int s k t) F.entry_int_rmul (F.args_int_rmul_2 _ _) (int___rmul___int_list k t l its.toArray n)
     ⟨e, rfl, ⟨_, e, rfl⟩, call_meets F.slot_list_mul ⟨_, e, rfl⟩ F.entry_list_mul (F.args_list_mul_2 _ _) (AutoListH.list___mul___list_int_3 l its.toArray n k t hfit hcap hlong) ⟨e, ?_⟩⟩)
 rw [hnew]
 exact ⟨.ref _, _, I.lnew (t' := s.toks) (r.rep k.toNat) (by rw [len_rep, Nat.mul_comm]; exact hz), rfl, q _ I.fresh⟩
end
section
variable {prog : Program} {w : World} {A : Around} {E : Value → Shared → Prop} {s : Shared}
end
section
variable {X : Cx}
end
end L2
namespace Att
open PySem PySem.W PySem.Calls PyProof.Rows
theorem ints_of_wellAll {P : Params} {h : Heap} : ∀ (ns : List Int) (vs : List Value), WellAll P h vs (ns.map WData.int) → IntsAre vs ns := by
 intro ns
 induction ns with
 | nil =>
   intro vs w
   rw [List.map_nil] at w
   cases w
   exact .nil
 | cons n ns ih =>
   intro vs w
   rw [List.map_cons] at w
   cases w with
   | cons a b =>
     cases a
     exact .cons _ _ (ih _ b)
theorem script_of {l : OpenLaw} {n : Nat} (hn : l.most = some n) {P : Params} {h : Heap} {args : List WData} {vals : List Value}
   (hpre : l.row.toRowW.claim.pre args = true) (hwl : WellAll P h vals args) :
   ∃ a vs ns, vals = [Value.ref a] ∧ args = [WData.list (ns.map WData.int)] ∧ h.get? a = some { cls := .type "list", data := .seq vs.toArray } ∧ IntsAre vs ns ∧ ns.length ≤ n := by
 have hsh : WShape.hasAll [] args [.list .int] = true := (pre_splitW hpre).1
 have hc : l.pre.holds [] { args := args } = true := (pre_splitW hpre).2
 obtain ⟨d, r, rfl, h1, h2⟩ := hasAllW_cons hsh
 obtain rfl := hasAllW_nil h2
 obtain ⟨xs, rfl, h3⟩ := hasW_list h1
 obtain ⟨ns, rfl⟩ := items_int h3
 have hlen : ns.length ≤ n := by
   unfold OpenLaw.pre at hc
   have h4 : (WTm.not (.lt (.lit (.int (n : Int))) (.len (.arg 0)))).holds [] { args := [.list (ns.map .int)] } = true := by
     have h4 := (holds_andW hc).1
     rw [hn] at h4
     exact h4
   have h5 := condW_of h4 (w_not (w_lt w_lit (w_len_list (w_arg rfl))))
   rw [List.length_map] at h5
   refine Nat.le_of_not_lt fun q => ?_
   have q' : (n : Int) < ((ns.length : Nat) : Int) := by lia
   first
     | (rw [decide_eq_true q'] at h5; exact absurd h5 (by decide))
     | (simp at h5; lia)
 cases hwl with
 | cons w1 w2 =>
   cases w2
   cases w1 with
   | list ho hall => exact ⟨_, _, ns, rfl, rfl, ho, ints_of_wellAll ns _ hall, hlen⟩
theorem post_true (l : OpenLaw) (args : List WData) : l.row.toRowW.claim.post args (.bool true) args = true :=
 postW_of (r := l.row.toRowW) (X := (true == true))
   (show WShape.has [] (.bool true) .bool = true by first | rfl | decide | simp [WShape.has, WShape.arms, WShape.armsAll])
   (show (WTm.eq .res (.lit (.bool true))).value [] { args := args, res := some (.bool true), after := args } = some (.bool (true == true)) from w_eq_bool (w_res rfl) w_lit) rfl
theorem attach_call {l : OpenLaw} {n : Nat} {q : Program} {loose : List Str} {XP : (Str → Option Value) → Heap → Prop} {YP : World → Heap → Prop} {d : DefRec}
   (hn : l.most = some n) (hdf : d.params.defaults = [])
   (call : ∀ (w : World) (s₀ s₁ : Shared) (mg mb : Str → Option Value) (fa : Addr) (o : Obj) (pm cd doc : Value) (a : Addr) (vs : List Value) (ns : List Int),
     Ground q loose [] XP w s₀ mg mb s₁.heap → YP w s₁.heap →
     s₁.heap.get? fa = some o → o.data = .func (docDef d.name d.params d.body d.scope pm cd doc) → s₁.heap.CodeRec cd d.name → mg d.name = some (.ref fa) →
     s₁.heap.get? a = some { cls := .type "list", data := .seq vs.toArray } → IntsAre vs ns → ns.length ≤ n → s₁.gens = #[] →
     codeAny (model l.prog w) callerA (.call (.ref fa) ⟨[.ref a], []⟩) (fun r s' => r = .ok (.ret (.bool true)) ∧ OldK s₁.heap s'.heap ∧ s'.os = s₁.os ∧ AllBare s'.gens) s₁) :
   WalkO q loose XP YP l.row.toRowW d [] (fun f vs => PySem.call f vs) := by
 intro w s₀ s₁ mg mb G Y fa o pm cd doc dV kV ho hd hcd hD hmg hg args vals as hpre hlay hrd hwl hlo
 obtain rfl : dV = .none := Dflts.none hD hdf
 obtain rfl : kV = .none := Dflts.noKw hD
 obtain ⟨a, vs, ns, rfl, rfl, hobj, hints, hlen⟩ := script_of hn hpre hwl
 refine enter_call (codeAny_mono (call w s₀ s₁ mg mb fa o pm cd doc a vs ns G Y ho (fd_plain hd) hcd hmg hobj hints hlen hg) fun r s' hq => ?_)
 obtain ⟨rfl, h2, h3, h4⟩ := hq
 exact ⟨.inl ⟨.bool true, .bool true, [], rfl, fun _ => rfl, .bool true, post_true l _, fun _ => ⟨List.Pairwise.nil, fun _ hm => (nomatch hm)⟩⟩, h2, h3, h4⟩
section
variable {prog : Program} {w : World} {A : Around} {E : Value → Shared → Prop} {s : Shared} {K : Frag}
end
end Att
namespace L2
open PySem PySem.Spec PyProof.Rows
theorem vals_ints : ∀ {vs : List Value} {ns : List Int}, IntsAre vs ns → Vals (ns.map V.int) vs
 | _, _, .nil => .nil
 | _, _, .cons n t h => .cons ⟨t, rfl⟩ (vals_ints h)
noncomputable def Only (H : Hp) : Prop := ∀ b, H b = none ∨ ∃ o xs, H b = some (.frz o (.lst xs))
theorem law_call {P : Program} {w : World} {K : PySem.W.Frag} {mg mb : Str → Option Value} {CX : CXT} {k : Nat} {fa a : Addr} {fd : FuncData} {x : Str} {sp : Sp} {s₁ : Shared} {vs : List Value} {ns : List Int}
   (KX : K.In s₁.heap) (hns : s₁.heap.Ns mainGlobals mg) (hb : s₁.heap.Ns builtinsNs mb) (hbb : ∀ x : Str, x ≠ "__name__" → mb x = bootBuiltins x) (hlim : s₁.heap.NoLimit) (hg : s₁.gens = #[])
   (ha : s₁.heap.get? a = some { cls := .type "list", data := .seq vs.toArray }) (hi : IntsAre vs ns) (hl : ns.length ≤ sizeLine) (hr : Room k callerA)
   (F : ∀ base : Heap, K.In base → base.Ns mainGlobals mg → FnOk P w K mg base CX k fa fd [x] sp) (hbind : ∀ (s : Shared) (u : Value), BindsTo s fd ⟨[u], []⟩ [(x, u)])
   (hsp : ∀ H : Hp, Only H → SqL K H a (ns.map V.int) → sp [.ref a] H (fun v _ => v = .bl true) fun _ _ _ => False)
   (hCX : ∀ H e s', CX [] H s₁ (fun _ _ _ => False) e s' → False) :
   codeAny (model P w) callerA (.call (.ref fa) ⟨[.ref a], []⟩) (fun r s' => r = .ok (.ret (.bool true)) ∧ OldK s₁.heap s'.heap ∧ s'.os = s₁.os ∧ AllBare s'.gens) s₁ := by
 have rv := vals_ints hi
 have lenV := hi.length
 -- from an abstract heap in which nothing but the script may be tracked
 have core : ∀ H : Hp, Only H → SqL K H a (ns.map V.int) → HOk P w H s₁.heap → (∀ b, H b ≠ none → b = a) → (H a ≠ none → K.lookup a = none) →
     codeAny (model P w) callerA (.call (.ref fa) ⟨[.ref a], []⟩) (fun r s' => r = .ok (.ret (.bool true)) ∧ OldK s₁.heap s'.heap ∧ s'.os = s₁.os ∧ AllBare s'.gens) s₁ := by
   intro H hO hS hok hA hK
   have base_of : ∀ {b : Addr} {o : Obj}, s₁.heap.get? b = some o → H b = none → (hidT s₁.heap H).get? b = some o := fun e n => hidT_get e n
   have noA : ∀ {b : Addr} {o : Obj} {es : Array DictEntry} {ep : Nat}, s₁.heap.get? b = some o → o.data = .dict es ep → H b = none := fun {b o es ep} e d => by
     cases q : H b with
     | none => rfl
     | some u =>
       have e' : b = a := hA b (by rw [q]; simp)
       subst e'
       rw [ha] at e; cases e
       have d' : Data.seq vs.toArray _ = Data.dict es ep := d
       cases d'
   have nsK : ∀ {b : Addr} {m : Str → Option Value}, s₁.heap.Ns b m → (hidT s₁.heap H).Ns b m := fun {b m} ⟨o, es, ep, e, d, r⟩ => ⟨o, es, ep, base_of e (noA e d), d, r⟩
   have hKb : K.In (hidT s₁.heap H) := fun b o e => base_of (KX b o e) (by
     cases q : H b with
     | none => rfl
     | some u =>
       have e' : b = a := hA b (by rw [q]; simp)
       subst e'
       rw [hK (by rw [q]; simp)] at e; cases e)
   have hM : Mod K mg (hidT s₁.heap H) := ⟨hKb, nsK hns, ⟨mb, nsK hb, hbb⟩, let ⟨mc, h1, h2⟩ := hlim; ⟨mc, nsK h1, h2⟩⟩
   have e0 : Env0 P w K mg (hidT s₁.heap H) callerA [] s₁ H := ⟨rfl, hM, fun b o e => of_hidT e, Nat.le_of_eq (hidT_size _ _), trivial, fun b hb => absurd (show b ∈ ([] : List Addr) from hb) (by simp), hok, .of_eq hg⟩
   refine codeAny_mono ((F _ hKb (nsK hns)).run callerA [] s₁ H ⟨[.ref a], []⟩ [.ref a] [.ref a] _ _ hr e0 (hbind s₁ (.ref a)) (.cons rfl .nil) (hsp H hO hS)) fun r s' h => ?_
   cases r with
   | error e => exact (hCX H e s' h).elim
   | ok fl =>
     cases fl with
     | next => exact False.elim h
     | brk => exact False.elim h
     | cont => exact False.elim h
     | ret u =>
       obtain ⟨v, H', os, bare, un, hok', r', q⟩ := h
       have q' : v = .bl true := q
       subst q'
       obtain rfl : u = Value.bool true := r'
       refine ⟨rfl, OldK.of_keep fun b o e => ?_, os, bare⟩
       cases q : H b with
       | none => exact un.keep b o e q (by intro z; exact absurd (show b ∈ ([] : List Addr) from z) (by simp)) (by simp)
       | some u =>
         rcases hO b with z | ⟨ob, xs, z⟩
         · rw [q] at z; cases z
         · have z2 := un.frzs b ob _ z
           obtain ⟨e1, _⟩ := hok b _ z
           obtain ⟨e2, _⟩ := hok' b _ z2
           rw [e] at e1; cases e1
           exact e2
 cases hk : K.lookup a with
 | some o =>
   -- the script is one of the module's own objects
   have e := KX a o hk
   rw [ha] at e
   cases e
   refine core (fun _ => none) (fun _ => .inl rfl) (.inr ⟨_, vs.toArray, _, hk, rfl, rfl, rfl, by rw [List.size_toArray, lenV]; exact hl, by simpa using rv⟩) (fun b u z => by have z' : (none : Option HO) = some u := z; cases z') (fun b z => absurd rfl z) fun z => absurd rfl z
 | none =>
   refine core (fun b => if b = a then some (.frz { cls := .type "list", data := .seq vs.toArray } (.lst (ns.map V.int))) else none) (fun b => ?_) (.inl (.inr ⟨{ cls := .type "list", data := .seq vs.toArray }, if_pos rfl⟩)) (fun b u z => ?_) (fun b z => ?_) fun _ => hk
   · by_cases hb : b = a
     · exact .inr ⟨_, _, if_pos hb⟩
     · exact .inl (if_neg hb)
   · by_cases hb : b = a
     · have z' := (if_pos hb).symm.trans z
       cases z'
       subst hb
       exact ⟨ha, by rw [List.length_map]; exact hl, vs, _, rv, ha⟩
     · have z' := (if_neg hb).symm.trans z
       cases z'
   · by_cases hb : b = a
     · exact hb
     · exact absurd (if_neg hb) z
end L2
namespace L2
open PySem PySem.Spec PyProof.Rows
theorem walk_of {l : PySem.W.OpenLaw} {n k : Nat} {q : Program} {loose : List Str} {XP : (Str → Option Value) → Heap → Prop} {YP : World → Heap → Prop} {d : DefRec} {K : Params → PySem.W.Frag} {CX : World → CXT} {sp : World → Sp} {x : Str}
   (hn : l.most = some n) (hn2 : n ≤ sizeLine) (hdf : d.params.defaults = []) (hr : Room k callerA)
   (hY : ∀ (w : World) (h : Heap), YP w h → (K w.params).In h)
   (F : ∀ (w : World) (mg : Str → Option Value) (fa : Addr) (h : Heap), (K w.params).In h → h.Ns mainGlobals mg → mg d.name = some (.ref fa) →
     ∃ fd : FuncData, (∀ (s : Shared) (u : Value), BindsTo s fd ⟨[u], []⟩ [(x, u)]) ∧
       ∀ base : Heap, (K w.params).In base → base.Ns mainGlobals mg → FnOk l.prog w (K w.params) mg base (CX w) k fa fd [x] (sp w))
   (hsp : ∀ (w : World) (H : Hp) (a : Addr) (ns : List Int), ns.length ≤ n → Only H → SqL (K w.params) H a (ns.map V.int) → sp w [.ref a] H (fun v _ => v = .bl true) fun _ _ _ => False)
   (hCX : ∀ (w : World) (H : Hp) (s : Shared) (e : Value) (s' : Shared), CX w [] H s (fun _ _ _ => False) e s' → False) :
   PySem.W.WalkO q loose XP YP l.row.toRowW d [] (fun f vs => PySem.call f vs) := by
 refine Att.attach_call hn hdf fun w s₀ s₁ mg mb fa o pm cd doc a vs ns G Y ho hd hcd hmg hobj hints hlen hg => ?_
 have KX := hY w _ Y
 obtain ⟨fd, hb, hF⟩ := F w mg fa _ KX G.T.g hmg
 exact law_call KX G.T.g G.T.b G.T.builtins G.T.nolimit hg hobj hints (Nat.le_trans hlen hn2) hr hF hb (fun H hO hS => hsp w H a ns hlen hO hS) fun H e s' => hCX w H s₁ e s'
end L2
namespace L2
open PySem PySem.Spec PyProof.Rows
noncomputable def defArgs (s : Stmt) : Arguments := match s with
 | .FunctionDef _ a _ _ _ _ _ _ _ _ => a
 | _ => { posonlyargs := [], args := [], vararg := none, kwonlyargs := [], kw_defaults := [], kwarg := none, defaults := [] }
noncomputable def defBody (s : Stmt) : List Stmt := match s with
 | .FunctionDef _ _ b _ _ _ _ _ _ _ => b
 | _ => []
noncomputable def defScope (s : Stmt) : Scope := match s with
 | .FunctionDef _ _ _ _ _ _ sc _ _ _ => sc
 | _ => { kind := .function, names := [], isGenerator := false, isCoroutine := false }
noncomputable abbrev CX0 : CXT := fun _ _ _ _ _ _ => False
noncomputable abbrev E0 : XK := fun _ _ _ => False
theorem pass0 {X : Cx} : Passes CX0 X E0 := fun _ _ _ _ _ _ _ h => h.elim
structure Fun (K : PySem.W.Frag) (x qual : Str) (st : Stmt) (f : Addr) (fd : FuncData) : Prop where
 ex : ∃ (oc : Value) (od : Option Addr) (kV doc pm : Value) (an : Option Addr) (cdv ct : Value) (osl : Array (Option Value)),
   fd = PySem.W.fnOf x qual (defArgs st) (defBody st) (defScope st) .none kV doc pm an cdv ct ∧ K.lookup f = some ⟨oc, od, .func fd, osl⟩ ∧ PySem.W.codeIn K cdv qual = true
 kp : PySem.W.keepIn K (.ref f) = true
section
variable {P : Program} {w : World} {K : PySem.W.Frag} {mg : Str → Option Value} {base : Heap}
theorem Fun.ok {x qual : Str} {st : Stmt} {f : Addr} {fd : FuncData} {N ps : List Str} {k : Nat} {sp : Sp} (F : Fun K x qual st f fd) (S : FnScope N ps (defScope st)) (len : ∀ vs H Q E, sp vs H Q E → vs.length = ps.length)
   (hbody : ∀ (cdv : Value) (A : Around) (outer : List Env) (s : Shared) (H : Hp) (vs : List V) (Q : VK) (E : XK), Room k (A.deeper (envOfC qual (defScope st) s.heap.objs.size f cdv)) → sp vs H Q E →
     ∃ t, PSs (cxOf CX0 P w K mg base N qual (defScope st) f cdv A outer s H E).nox (defBody st) t ∧ t { nx := fun _ H' => Q .non H', rt := Q } (start N vs) H) : FnOk P w K mg base CX0 (k + 1) f fd ps sp := by
 obtain ⟨oc, od, kV, doc, pm, an, cdv, ct, osl, rfl, lk, hcd⟩ := F.ex
 refine fn_of lk hcd S len fun A outer s H vs Q E hr hsp => ?_
 obtain ⟨t, h, q⟩ := hbody cdv A outer s H vs Q E hr hsp
 exact ⟨t, h.nox, q⟩
theorem Fun.binds {x qual : Str} {st : Stmt} {f : Addr} {fd : FuncData} {ps : List Str} (F : Fun K x qual st f fd)
   (h : ∀ (kV doc pm : Value) (an : Option Addr) (cdv ct : Value) (us : List Value), us.length = ps.length → bindArgs (PySem.W.fnOf x qual (defArgs st) (defBody st) (defScope st) .none kV doc pm an cdv ct) ⟨us, []⟩ = pure (ps.zip us)) : Binds K fd ps [] := by
 obtain ⟨oc, od, kV, doc, pm, an, cdv, ct, osl, rfl, lk, hcd⟩ := F.ex
 exact .all (h kV doc pm an cdv ct)
theorem fun_mk {x qual : Str} {st : Stmt} {f : Addr} {oc : Value} {od an : Option Addr} {osl : Array (Option Value)} {kV doc pm cdv ct : Value} (l : K.lookup f = some ⟨oc, od, .func (PySem.W.fnOf x qual (defArgs st) (defBody st) (defScope st) .none kV doc pm an cdv ct), osl⟩)
   (c : PySem.W.codeIn K cdv qual = true) (k : PySem.W.keepIn K (.ref f) = true) : Fun K x qual st f (PySem.W.fnOf x qual (defArgs st) (defBody st) (defScope st) .none kV doc pm an cdv ct) := ⟨⟨oc, od, kV, doc, pm, an, cdv, ct, osl, rfl, l, c⟩, k⟩
end
section
variable {X : Cx}
end
theorem ite2 {c A B : Prop} [Decidable c] (h1 : c → A) (h2 : ¬ c → B) : if c then A else B := by
 by_cases h : c
 · rw [if_pos h]
   exact h1 h
 · rw [if_neg h]
   exact h2 h
end L2
set_option maxHeartbeats 4000000
namespace L2
open PySem PySem.Spec PyProof.Rows
section
variable {κ : Type} [DecidableEq κ]
theorem RelO.getD {o : Option V} {u : Option Value} {d : V} {d' : Value} (r : RelO o u) (rd : RelV d d') : RelV (o.getD d) (u.getD d') := by
 cases o with
 | none => cases u with
   | none => exact rd
   | some _ => exact (show False from r).elim
 | some _ => cases u with
   | none => exact (show False from r).elim
   | some _ => exact r
theorem KV.length {kvs : List (κ × V)} {vs : List (κ × Value)} (r : KV kvs vs) : kvs.length = vs.length := Paired.length r
end
section
variable {P : Program} {w : World} {H : Hp} {h : Heap} {a : Addr}
end
section
variable {X : Cx} {pins : List (Addr × Obj)} {σ : St} {H : Hp} {s : Shared} {a : Addr} {y v : V} {u r : Value} {o : Option V} {A : Around} {E : Value → Shared → Prop}
end
section
variable {X : Cx} {pins : List (Addr × Obj)} {σ : St} {H : Hp} {s : Shared} {a : Addr} {kvs : List (Key × V)} {k : Key} {u : Value} {A : Around} {E : Value → Shared → Prop}
end
section
variable {X : Cx} {o i e value : Expr} {pos pos' tpos : Pos} {td ty tv : TE}
end
section
variable {X : Cx} {pos : Pos}
end
structure M1 (X : Cx) (o : Expr) (m : Str) (apos : Pos) (e : Expr) (cpos : Pos) : Prop where
 base : attributeBase o m X.env (eval o X.env) = eval o X.env
 few : ((backTo cpos (starEach [e] X.env)).all (fun x => !x.1) && (backToKw cpos (keywordEach [] X.env)).all (fun x => x.1.isSome)
   && decide (([e] : List Expr).length + ([] : List Keyword).length + (if ([] : List Keyword).isEmpty then 0 else 1) < 30)) = true
 line : (apos.endLine == cpos.line) = true
 trees : backTo cpos (starEach [e] X.env) = [(false, eval e X.env)]
section
variable {X : Cx} {pins : List (Addr × Obj)} {σ : St} {H : Hp} {s : Shared} {a : Addr} {y d : V} {u r : Value} {o : Option V} {A : Around} {E : Value → Shared → Prop}
end
section
variable {X : Cx} {o e f : Expr} {apos cpos : Pos} {td ty tx : TE}
end
end L2
namespace L2
open PySem PySem.Spec PyProof.Rows
noncomputable def cloOf (env : Env) : List (Str × NameKind) → List (Str × Addr) → List (Str × Addr)
 | [], acc => acc
 | (n, k) :: r, acc => cloOf env r (if k == .free then (n, (env.cells.lookup n).getD 0) :: acc else acc)
theorem cloOf_cons (env : Env) (n : Str) (k : NameKind) (r : List (Str × NameKind)) (acc : List (Str × Addr)) : cloOf env ((n, k) :: r) acc = cloOf env r (if k == .free then (n, (env.cells.lookup n).getD 0) :: acc else acc) := rfl
theorem closure_forIn (env : Env) (f : Str × NameKind → List (Str × Addr) → Sem (ForInStep (List (Str × Addr))))
   (hf : ∀ n k cs, f (n, k) cs = if (k == .free) = true then (do let a ← cellOf env n; pure (.yield ((n, a) :: cs))) else pure (.yield cs)) :
   ∀ (names : List (Str × NameKind)) (acc : List (Str × Addr)), (∀ y ∈ names, y.2 = .free → ∃ c, env.cells.lookup y.1 = some c) → forIn names acc f = (pure (cloOf env names acc) : Sem _)
 | [], acc, _ => by rw [List.forIn_nil]; rfl
 | (n, k) :: r, acc, h => by
   rw [List.forIn_cons, hf]
   have hr : ∀ y ∈ r, y.2 = .free → ∃ c, env.cells.lookup y.1 = some c := fun y hy => h y (List.mem_cons_of_mem _ hy)
   by_cases hk : (k == NameKind.free) = true
   · rw [if_pos hk]
     obtain ⟨c, hc⟩ := h (n, k) List.mem_cons_self (by simpa using hk)
     have hc' : env.cells.lookup n = some c := hc
     have e : cellOf env n = pure c := by unfold cellOf; rw [hc']
     rw [e]
     simp only [pure_bind]
     rw [closure_forIn env f hf r _ hr]
     rw [cloOf_cons, if_pos hk, hc']
     rfl
   · rw [if_neg hk]
     simp only [pure_bind]
     rw [closure_forIn env f hf r _ hr]
     rw [cloOf_cons, if_neg hk]
theorem closureFor_eq (scope : Scope) (env : Env) (h : ∀ y ∈ scope.names, y.2 = .free → ∃ c, env.cells.lookup y.1 = some c) : closureFor scope env = pure (cloOf env scope.names []) := by
 unfold closureFor
 dsimp only
 rw [closure_forIn env _ (fun n k cs => by cases hk : (k == NameKind.free) <;> simp [hk] <;> rfl) scope.names [] h]
 rfl
theorem cloOf_lookup (env : Env) : ∀ (names : List (Str × NameKind)) (acc : List (Str × Addr)) (x : Str) (c : Addr), (cloOf env names acc).lookup x = some c →
   (acc.lookup x = some c ∨ ((x, .free) ∈ names ∧ c = (env.cells.lookup x).getD 0))
 | [], acc, x, c, h => .inl h
 | (n, k) :: r, acc, x, c, h => by
   rw [cloOf_cons] at h
   rcases cloOf_lookup env r _ x c h with q | ⟨q1, q2⟩
   · split at q
     · rename_i hk
       have hk' : k = .free := by simpa using hk
       subst hk'
       rw [List.lookup_cons] at q
       split at q
       · rename_i hx
         have : x = n := by simpa using hx
         subst this
         cases q
         exact .inr ⟨List.mem_cons_self, rfl⟩
       · exact .inl q
     · exact .inl q
   · exact .inr ⟨List.mem_cons_of_mem _ q1, q2⟩
theorem cloOf_acc (env : Env) : ∀ (names : List (Str × NameKind)) (acc : List (Str × Addr)) (x : Str), (∃ c, acc.lookup x = some c) → ∃ c, (cloOf env names acc).lookup x = some c
 | [], acc, x, h => h
 | (n, k) :: r, acc, x, h => by
   rw [cloOf_cons]
   refine cloOf_acc env r _ x ?_
   split
   · rw [List.lookup_cons]
     split
     · exact ⟨_, rfl⟩
     · exact h
   · exact h
theorem cloOf_has (env : Env) : ∀ (names : List (Str × NameKind)) (acc : List (Str × Addr)) (x : Str), (x, NameKind.free) ∈ names → ∃ c, (cloOf env names acc).lookup x = some c
 | [], acc, x, h => by simp at h
 | (n, k) :: r, acc, x, h => by
   rw [cloOf_cons]
   rcases List.mem_cons.mp h with e | h
   · cases e
     refine cloOf_acc env r _ _ ?_
     rw [if_pos (by decide), List.lookup_cons]
     simp
   · exact cloOf_has env r _ x h
noncomputable def ownB (names : List (Str × NameKind)) (x : Str) : Bool := names.any fun y => y.1 == x && y.2 == .cell
theorem ownB_mem {names : List (Str × NameKind)} {x : Str} : ownB names x = true ↔ (x, NameKind.cell) ∈ names := by
 unfold ownB
 rw [List.any_eq_true]
 constructor
 · rintro ⟨⟨n, k⟩, h, e⟩
   simp only [Bool.and_eq_true, beq_iff_eq] at e
   obtain ⟨rfl, rfl⟩ := e
   exact h
 · intro h
   exact ⟨_, h, by simp⟩
theorem cellsFrom_app : ∀ (names : List (Str × NameKind)) (n : Nat) (acc : List (Str × Addr)), cellsFrom n names acc = cellsFrom n names [] ++ acc
 | [], _, _ => rfl
 | (x, k) :: r, n, acc => by
   unfold cellsFrom
   split
   · rw [cellsFrom_app r (n + 1) ((x, n) :: acc), cellsFrom_app r (n + 1) [(x, n)], List.append_assoc]; rfl
   · exact cellsFrom_app r n acc
theorem cellsFrom_in : ∀ (names : List (Str × NameKind)) (n : Nat) {x : Str} {c : Addr}, (x, c) ∈ cellsFrom n names [] → n ≤ c ∧ (x, NameKind.cell) ∈ names
 | [], _, _, _, h => nomatch h
 | (y, k) :: r, n, x, c, h => by
   unfold cellsFrom at h
   split at h
   · rename_i hk
     have hk' : k = .cell := by simpa using hk
     subst hk'
     rw [cellsFrom_app] at h
     rcases List.mem_append.mp h with h | h
     · have := cellsFrom_in r (n + 1) h
       exact ⟨by lia, List.mem_cons_of_mem _ this.2⟩
     · cases List.mem_singleton.mp h
       exact ⟨Nat.le_refl _, List.mem_cons_self⟩
   · have := cellsFrom_in r n h
     exact ⟨this.1, List.mem_cons_of_mem _ this.2⟩
theorem cellsFrom_has : ∀ (names : List (Str × NameKind)) (n : Nat) {x : Str}, (x, NameKind.cell) ∈ names → ((cellsFrom n names []).lookup x).isSome = true
 | [], _, _, h => nomatch h
 | (y, k) :: r, n, x, h => by
   unfold cellsFrom
   rcases List.mem_cons.mp h with e | h
   · cases e
     rw [if_pos (by decide), cellsFrom_app, List.lookup_append]
     cases hh : (cellsFrom (n + 1) r []).lookup y with
     | some c => rfl
     | none => simp
   · have i0 := cellsFrom_has r n h
     have i1 := cellsFrom_has r (n + 1) h
     split
     · rw [cellsFrom_app, List.lookup_append]
       cases hh : (cellsFrom (n + 1) r []).lookup x with
       | some c => rfl
       | none => rw [hh] at i1; cases i1
     · exact i0
theorem cellsFrom_apart : ∀ (names : List (Str × NameKind)) (n : Nat), (cellsFrom n names []).Pairwise fun x y => x.2 ≠ y.2
 | [], _ => List.Pairwise.nil
 | (y, k) :: r, n => by
   unfold cellsFrom
   split
   · rw [cellsFrom_app]
     refine List.pairwise_append.mpr ⟨cellsFrom_apart r (n + 1), List.pairwise_singleton _ _, fun a ha b hb => ?_⟩
     rw [List.mem_singleton.mp hb]
     have := (cellsFrom_in r (n + 1) (x := a.1) (c := a.2) ha).1
     show a.2 ≠ n
     exact Nat.ne_of_gt (Nat.lt_of_succ_le this)
   · exact cellsFrom_apart r n
theorem wpAny_newBlockEnv {M : Model} {A : Around} {E : Value → Shared → Prop} {s : Shared} {scope : Scope} {globals : Addr} {closure : List (Str × Addr)} {qual : Str} {func : Option Addr} {code : Value} {around : Env} {builtins : Addr} {Q : Env → Shared → Prop}
   (hQ : ∀ h', h' = pushCells (s.heap.push { cls := .type "dict", data := .dict #[] }) scope.names → Q (newEnv scope s.heap.objs.size globals (cellsFrom (s.heap.objs.size + 1) scope.names [] ++ closure) qual func code (some around) builtins) { s with heap := h' }) :
   wpAny M A (newFunctionEnv scope globals closure [] qual func code (some around) builtins) Q E s := by
 simp only [newFunctionEnv, Option.isSome_some, if_true]
 refine wpAny_bind (wpAny_alloc ?_)
 refine wpAny_bind (wpAny_layCells _ (fun name kind cells => by cases hkc : kind == NameKind.cell <;> simp [hkc]) _ _ _ _ ?_)
 rw [cellsFrom_app, show ({ s with heap := s.heap.push { cls := .type "dict", data := .dict #[] } } : Shared).heap.objs.size = s.heap.objs.size + 1 from Heap.size_push ..]
 refine wpAny_bind ?_
 rw [List.forIn_nil]
 exact wpAny_pure (wpAny_pure (hQ _ rfl))
section
variable {prog : Program} {w : World} {A : Around} {R : Result → Shared → Prop} {s : Shared}
theorem codeAny_compLoop_gen {elt target iter : Expr} {ifs : List Expr} {scope : Scope} {pos : Pos} {it acc : Value} {env : Env} (I : Nat → Shared → Prop)
   (turn : ∀ n s, I n s → wpAny (model prog w) A (pyNext it) (fun r s₁ => match r with
     | none => R (.ok .next) s₁
     | some v => wpAny (model prog w) A (letOwnedTupleGo target it v) (fun _ s₁' => wpAny (model prog w) A (assign target env v) (fun _ s₂ =>
         wpAny (model prog w) A (forIn ifs true fun c r => if r = true then do let ok ← isTrue c env (eval c env); pure (ForInStep.yield ok) else pure (ForInStep.yield r)) (fun ok s₃ =>
           if ok = true then wpAny (model prog w) A (eval elt env) (fun x s₄ =>
             wpAny (model prog w) A (call (.builtin "list.append") [acc, x]) (fun _ s₅ => ∃ m, m < n ∧ I m s₅) (notedBy (model prog w) A env fun e s' => R (.error e) s') s₄) (notedBy (model prog w) A env fun e s' => R (.error e) s') s₃
           else ∃ m, m < n ∧ I m s₃) (notedBy (model prog w) A env fun e s' => R (.error e) s') s₂) (notedBy (model prog w) A env fun e s' => R (.error e) s') s₁') (notedBy (model prog w) A env fun e s' => R (.error e) s') s₁) (notedBy (model prog w) A env fun e s' => R (.error e) s') s)
   (n : Nat) (h : I n s) :
   codeAny (model prog w) A (.compLoop (.ListComp elt [⟨target, iter, ifs, 0⟩] scope pos) 0 it acc env) R s := by
 refine codeAny_loop rfl I (fun n s hI => ?_) n h
 show wpAny _ A ((compTurn (.ListComp elt [⟨target, iter, ifs, 0⟩] scope pos) 0 it acc env).onRaise (fun x => do noteFrame x env; theTreesLotGoes x)) _ _ s
 refine wpAny_noted ?_
 rw [compTurn_list]
 refine wpAny_bind (wpAny_standAt (wpAny_bind (wpAny_mono (turn n s hI) (fun r s₁ h₁ => ?_) fun _ _ h' => h')))
 cases r with
 | none => exact wpAny_pure h₁
 | some v =>
   refine wpAny_bind (wpAny_mono h₁ (fun _ s₁' h₁' => wpAny_bind (wpAny_mono h₁' (fun _ s₂ h₂ => wpAny_bind (wpAny_mono h₂ (fun ok s₃ h₃ => ?_) fun _ _ h' => h')) fun _ _ h' => h')) fun _ _ h' => h')
   cases ok with
   | false => exact wpAny_pure ⟨rfl, h₃⟩
   | true =>
     exact wpAny_bind (wpAny_bind (wpAny_mono h₃ (fun x s₄ h₄ => wpAny_bind (wpAny_mono h₄ (fun _ s₅ h₅ => wpAny_pure (wpAny_pure ⟨rfl, h₅⟩)) fun _ _ h' => h')) fun _ _ h' => h'))
end
noncomputable def blk (X : Cx) (N' : List Str) (scope : Scope) (C : Addr) (s : Shared) (H : Hp) (fp : List Addr) (pins : List (Addr × Obj)) : Cx where
 prog := X.prog
 w := X.w
 K := X.K
 mg := X.mg
 base := X.base
 A := X.A
 N := N'
 s₀ := s
 H₀ := H
 env := compEnvC scope (cellsFrom (C + 1) scope.names [] ++ cloOf X.env scope.names []) C X.env
 outer := X.stack
 stack := X.stack
 ex := fp
 fn := ownB scope.names
 calm := X.calm
 pn := X.pn ++ pins
 xe := fun _ _ => False
structure BlkScope (X : Cx) (N' : List Str) (ix : List (Option Nat)) (scope : Scope) : Prop where
 kind : scope.kind = .function
 locs : ∀ y ∈ scope.names, y.2 = .local → scope.names.lookup y.1 = some .local
 frees : ∀ y ∈ scope.names, y.2 = .free → (X.env.kindOf y.1 = some .cell ∨ X.env.kindOf y.1 = some .free)
 look : ∀ x k, (relabel scope X.env).names.lookup x = some k → (k = .cell ∨ k = .free) → (x, NameKind.free) ∈ scope.names ∨ (x, NameKind.cell) ∈ scope.names
 lenI : ix.length = N'.length
 at_ : ∀ (i j : Nat) (x : Str), ix[i]? = some (some j) → N'[i]? = some x → X.N[j]? = some x ∧ (x, NameKind.free) ∈ scope.names ∧ ownB scope.names x = false ∧ (relabel scope X.env).names.lookup x = X.env.kindOf x
variable {X : Cx} {pins : List (Addr × Obj)} {σ : St} {H : Hp} {s : Shared} {N' : List Str} {ix : List (Option Nat)} {scope : Scope}
noncomputable def pick (ix : List (Option Nat)) (σ : St) : St := ix.map fun o => match o with | some j => (σ[j]?).join | none => none
theorem pick_get {i : Nat} {v : V} (e : (pick ix σ)[i]? = some (some v)) : ∃ j, ix[i]? = some (some j) ∧ σ[j]? = some (some v) := by
 unfold pick at e
 rw [List.getElem?_map] at e
 cases h : ix[i]? with
 | none => rw [h] at e; cases e
 | some o =>
   rw [h] at e
   cases o with
   | none =>
     have e' : (none : Option V) = some v := Option.some.inj e
     cases e'
   | some j =>
     have e' : (σ[j]?).join = some v := Option.some.inj e
     refine ⟨j, rfl, ?_⟩
     cases hj : σ[j]? with
     | none => rw [hj] at e'; cases e'
     | some u => rw [hj] at e'; exact congrArg some e'
theorem blk_cells (I : Inv X pins σ H s) (S : BlkScope X N' ix scope) (C : Addr) {x : Str} {c : Addr} (e : (cellsFrom (C + 1) scope.names [] ++ cloOf X.env scope.names []).lookup x = some c) :
   (C < c ∧ (cellsFrom (C + 1) scope.names []).lookup x = some c) ∨ (ownB scope.names x = false ∧ X.env.cells.lookup x = some c) := by
 rw [List.lookup_append] at e
 cases h : (cellsFrom (C + 1) scope.names []).lookup x with
 | some c' =>
   rw [h] at e
   cases e
   exact .inl ⟨(cellsFrom_in _ _ (mem_of_lookup h)).1, rfl⟩
 | none =>
   rw [h] at e
   refine .inr ⟨Bool.eq_false_iff.mpr fun z => ?_, ?_⟩
   · have := cellsFrom_has scope.names (C + 1) (ownB_mem.mp z)
     rw [h] at this; cases this
   · have e' : (cloOf X.env scope.names []).lookup x = some c := e
     rcases cloOf_lookup X.env scope.names [] x c e' with q | ⟨q, rfl⟩
     · cases q
     · obtain ⟨c, hc⟩ := I.ok.has x (S.frees _ q rfl)
       rw [hc] <;> rfl
theorem blk_ok {fp : List Addr} {C : Addr} (I : Inv X pins σ H s) (hf : ∀ b ∈ fp, FpOk X pins H b) (S : BlkScope X N' ix scope) (hC : s.heap.objs.size ≤ C) (hfo : ∀ b ∈ fp, ∃ o, s.heap.get? b = some o) :
   (blk X N' scope C s H fp pins).Ok := by
 have lt : ∀ x c, X.env.cells.lookup x = some c → c < C := fun x c e => by
   obtain ⟨v, z⟩ := I.cell x c e
   exact Nat.lt_of_lt_of_le z.lt hC
 refine ⟨I.ok.mod, ?_, I.ok.glob, I.ok.blt, hC, fun x y c h1 h2 => ?_, fun x hx => ?_, fun x c hf' e => ?_, I.ok.hd, I.ok.frames, .inl rfl, fun b hb => ?_, I.bs, Nat.le_trans I.ok.bsz I.sz, fun b o e hb => ?_, fun b hb hs => ?_, I.stack, I.stkFree⟩
 · exact S.kind
 · rcases blk_cells I S C h1 with ⟨a1, a2⟩ | ⟨a1, a2⟩ <;> rcases blk_cells I S C h2 with ⟨b1, b2⟩ | ⟨b1, b2⟩
   · exact name_of_addr (cellsFrom_apart _ _) (mem_of_lookup a2) (mem_of_lookup b2)
   · exact absurd (Nat.lt_trans (lt _ _ b2) a1) (Nat.lt_irrefl _)
   · exact absurd (Nat.lt_trans (lt _ _ a2) b1) (Nat.lt_irrefl _)
   · exact I.ok.inj x y c a2 b2
 · have hx' : (relabel scope X.env).names.lookup x = some .cell ∨ (relabel scope X.env).names.lookup x = some .free := hx
   have key : (x, NameKind.free) ∈ scope.names ∨ (x, NameKind.cell) ∈ scope.names := by
     rcases hx' with hx' | hx'
     · exact S.look x _ hx' (.inl rfl)
     · exact S.look x _ hx' (.inr rfl)
   show ∃ c, (cellsFrom (C + 1) scope.names [] ++ cloOf X.env scope.names []).lookup x = some c
   rw [List.lookup_append]
   cases h : (cellsFrom (C + 1) scope.names []).lookup x with
   | some c => exact ⟨c, rfl⟩
   | none =>
     rcases key with k | k
     · obtain ⟨c, hc⟩ := cloOf_has X.env scope.names [] x k
       exact ⟨c, by rw [hc]; rfl⟩
     · have := cellsFrom_has scope.names (C + 1) k
       rw [h] at this; cases this
 · rcases blk_cells I S C e with ⟨a1, a2⟩ | ⟨a1, a2⟩
   · exact Nat.le_of_lt (Nat.lt_of_le_of_lt hC a1)
   · have hf2 : ownB scope.names x = true := hf'
     rw [a1] at hf2; cases hf2
 · obtain ⟨f0, f1, f2, f3, f4, f5⟩ := hf b hb
   obtain ⟨o, ho⟩ := hfo b hb
   refine ⟨Nat.ne_of_lt (Nat.lt_of_lt_of_le (Heap.lt_size ho) hC), fun x c e => ?_⟩
   rcases blk_cells I S C e with ⟨a1, a2⟩ | ⟨a1, a2⟩
   · exact Nat.ne_of_gt (Nat.lt_trans (Nat.lt_of_lt_of_le (Heap.lt_size ho) hC) a1)
   · exact f4 x c a2
 · obtain ⟨f0, f1, f2, f3, f4, f5⟩ := hf b hb
   have := (I.ok.bs b o e).1
   rcases f3 with z | z
   · exact I.ok.noex b o e z
   · exact absurd (Nat.lt_of_lt_of_le (Heap.lt_size this) z) (Nat.lt_irrefl _)
 · obtain ⟨f0, f1, f2, f3, f4, f5⟩ := hf b hb
   rcases List.mem_cons.mp (I.stkSub b hs) with e | e
   · exact f1 e
   · exact f2 e
theorem blk_start {fp : List Addr} {C : Addr} {h₁ : Heap} {tk : Nat} (I : Inv X pins σ H s) (hf : ∀ b ∈ fp, FpOk X pins H b) (S : BlkScope X N' ix scope) (hC : s.heap.objs.size ≤ C) (hfo : ∀ b ∈ fp, ∃ o, s.heap.get? b = some o)
   (hns : h₁.Ns C (fun _ => none)) (hk : ∀ b o, s.heap.get? b = some o → h₁.get? b = some o) (hown : ∀ x c, (x, c) ∈ cellsFrom (C + 1) scope.names [] → h₁.IsCell c none) :
   Inv (blk X N' scope C s H fp pins) [] (pick ix σ) H { s with heap := h₁, toks := tk } := by
 have nC : ∀ b o, s.heap.get? b = some o → b ≠ C := fun b o e => Nat.ne_of_lt (Nat.lt_of_lt_of_le (Heap.lt_size e) hC)
 refine ⟨blk_ok I hf S hC hfo, rfl, I.bare, Un.kept hk, ⟨_, hns, fun i x v h1 h2 h3 => ?_⟩, fun x c e => ?_, I.hok.fresh hC, fun x c e => ?_, fun p hp => ?_, I.hok.kept hk, ?_⟩
 · obtain ⟨j, e1, e2⟩ := pick_get h2
   obtain ⟨a1, a2, a4, a3⟩ := S.at_ i j x e1 h1
   have kd := S.frees _ a2 rfl
   have vis : Vis X.env.scope x := by
     rcases kd with k | k
     · exact .inr (.inl k)
     · exact .inr (.inr k)
   obtain ⟨m, hn, hl⟩ := I.loc
   obtain ⟨u, r, l⟩ := hl j x v a1 e2 vis
   refine ⟨u, r, .inr ?_⟩
   have kd' : X.env.kindOf x = some .cell ∨ X.env.kindOf x = some .free := kd
   rcases l with ⟨k, _⟩ | ⟨k, c, ec, z⟩
   · rcases kd' with q | q <;> (rw [q] at k; cases k)
   · refine ⟨?_, c, ?_, z.keeps hk⟩
     · show (relabel scope X.env).names.lookup x = some .cell ∨ (relabel scope X.env).names.lookup x = some .free
       rw [a3]; exact kd'
     · obtain ⟨c', hc'⟩ := cloOf_has X.env scope.names [] x a2
       show (cellsFrom (C + 1) scope.names [] ++ cloOf X.env scope.names []).lookup x = some c
       have hn : (cellsFrom (C + 1) scope.names []).lookup x = none := by
         cases h : (cellsFrom (C + 1) scope.names []).lookup x with
         | none => rfl
         | some c2 =>
           have := ownB_mem.mpr (cellsFrom_in _ _ (mem_of_lookup h)).2
           rw [a4] at this; cases this
       rw [List.lookup_append, hn]
       show (cloOf X.env scope.names []).lookup x = some c
       rcases cloOf_lookup X.env scope.names [] x c' hc' with q | ⟨q, q2⟩
       · cases q
       · rw [hc', q2, ec]; rfl
 · rcases blk_cells I S C e with ⟨a1, a2⟩ | ⟨a1, a2⟩
   · exact ⟨none, hown x c (mem_of_lookup a2)⟩
   · obtain ⟨v, z⟩ := I.cell x c a2
     exact ⟨v, z.keeps hk⟩
 · rcases blk_cells I S C e with ⟨a1, a2⟩ | ⟨a1, a2⟩
   · exact I.hok.fresh (Nat.le_of_lt (Nat.lt_of_le_of_lt hC a1))
   · exact I.freeC x c a2
 · have hp' : p ∈ X.pn ++ pins := by
     have : p ∈ (X.pn ++ pins) ++ [] := hp
     simpa using this
   obtain ⟨e, n, ne, nf, d⟩ := I.pin p hp'
   refine ⟨hk _ _ e, n, nC _ _ e, fun hb => ?_, d⟩
   rcases List.mem_cons.mp (I.stkSub _ hb) with z | z
   · exact ne z
   · exact nf z
 · show (pick ix σ).length = N'.length
   unfold pick
   rw [List.length_map, S.lenI]
theorem blk_end {fp : List Addr} {C D : Addr} {h' : Heap} {H' : Hp} {σ' : St} {s' : Shared} {ys : List V} {its : List Value} {cap : Nat} (I : Inv X pins σ H s) (hf : ∀ b ∈ fp, FpOk X pins H b) (hC : s.heap.objs.size ≤ C) (hD : s.heap.objs.size ≤ D) (hDC : D ≠ C)
   (J : Inv (blk X N' scope C s H fp pins) [] σ' H' s') (hDn : H' D = none) (ho : s'.heap.get? D = some { cls := .type "list", data := .seq its.toArray cap }) (r : Vals ys its) (hz : ys.length ≤ sizeLine) (sb : Heap.SameBut C s'.heap h') :
   Inv X pins σ (upd H' D (.lst ys)) { s' with heap := h' } := by
 have sb' : ∀ b o, b ≠ C → s'.heap.get? b = some o → h'.get? b = some o := sb.extBut
 have nC : ∀ b o, s.heap.get? b = some o → b ≠ C := fun b o e => Nat.ne_of_lt (Nat.lt_of_lt_of_le (Heap.lt_size e) hC)
 have nD : ∀ b o, s.heap.get? b = some o → b ≠ D := fun b o e => Nat.ne_of_lt (Nat.lt_of_lt_of_le (Heap.lt_size e) hD)
 have hCn : H' C = none := J.free
 have u := J.base
 refine I.call' (ch := fp) (s' := { s' with heap := h' }) J.os ⟨fun b o e n hb hx => ?_, fun b o e n hb hx => ?_, fun b o e n hx => ?_, fun b o e hx => ?_, fun b xs e => ?_, fun b o v e => ?_, fun b ps e => ?_⟩ (fun b o e => ?_) J.bare (fun b hb => ?_)
 · exact sb' _ _ (nC b o e) (u.keep b o e n hb hx)
 · obtain ⟨sl, q⟩ := u.slot b o e n hb hx
   exact ⟨sl, sb' _ _ (nC b o e) q⟩
 · rw [upd_ne (nD b o e)]; exact u.free b o e n hx
 · obtain ⟨o', q⟩ := u.there b o e hx
   exact ⟨o', sb' _ _ (nC b o e) q⟩
 · have q := u.tups b xs e
   rw [upd_ne (ne_of_none q hDn)]; exact q
 · have q := u.frzs b o v e
   rw [upd_ne (ne_of_none q hDn)]; exact q
 · obtain ⟨m, q⟩ := u.tbls b ps e
   exact ⟨m, by rw [upd_ne (ne_of_none q hDn)]; exact q⟩
 · by_cases hb : b = D
   · subst hb
     rw [upd_same] at e; cases e
     exact ⟨hz, its, cap, r, sb' _ _ hDC ho⟩
   · rw [upd_ne hb] at e
     refine (J.hok b o e).stay (fun c v hc q => sb' c v ?_ q) (fun c q => by rw [upd_ne (ne_of_none q hDn)]; exact q) fun c xs q => by rw [upd_ne (ne_of_none q hDn)]; exact q
     rcases hc with rfl | hc
     · exact ne_of_none e hCn
     · exact ne_of_none hc hCn
 · obtain ⟨f0, f1, f2, f3, f4, f5⟩ := hf b hb
   exact ⟨f3, f1, f4, f5⟩
noncomputable def tComp (wi : TI) (ix : List (Option Nat)) (g : TG) (tt : TT) (te : TE) : TE := fun σ H Q => wi σ H fun J H1 => ∃ W : Nat → Nat → List V → Hp → Prop, (∃ m, W 0 m [] H1) ∧ ∀ i m ys H, W i m ys H →
 (J.stop i H ∧ ys.length ≤ sizeLine ∧ ∀ p, H p = none → Q (.ref p) (upd H p (.lst ys))) ∨
 (J.go i H ∧ ys.length < sizeLine ∧ ∀ x H', J.yld i H x H' → g x (pick ix σ) H' fun σ2 H2 => tt σ2 H2 fun ok H3 =>
   if ok = true then te σ2 H3 fun y H4 => ∃ m', m' < m ∧ W (i + 1) m' (ys ++ [y]) H4 else ∃ m', m' < m ∧ W (i + 1) m' ys H3)
noncomputable def PTs (X : Cx) (ifs : List Expr) (t : TT) : Prop :=
 ∀ (pins : List (Addr × Obj)) (s : Shared) (σ : St) (H : Hp) (Q : Bool → Hp → Prop), Inv X pins σ H s → t σ H Q →
   wpAny (model X.prog X.w) X.A (forIn ifs true fun c r => if r = true then do let ok ← isTrue c X.env (eval c X.env); pure (ForInStep.yield ok) else pure (ForInStep.yield r)) (TP X pins σ Q) X.xe s
noncomputable def tYes : TT := fun _ H Q => Q true H
theorem pts_nil : PTs X [] tYes := fun _ _ _ H _ I h => wpAny_tests_nil ⟨H, I, h⟩
theorem pts_one {c : Expr} {t : TT} (h : PT X c t) : PTs X [c] t := fun pins s σ H Q I hw => wpAny_tests_one (h pins s σ H Q I hw)
noncomputable def Agr (ix : List (Option Nat)) (σ σ2 : St) : Prop := σ2.length = σ.length ∧ ∀ (k j : Nat), ix[k]? = some (some j) → σ2[k]? = σ[k]?
noncomputable def Own (ix : List (Option Nat)) (g : TG) : Prop := ∀ (x : V) (σ0 σ : St) (H : Hp) (Q : St → Hp → Prop), Agr ix σ0 σ → g x σ H Q → g x σ H fun σ2 H2 => Q σ2 H2 ∧ Agr ix σ0 σ2
theorem own_name {ix : List (Option Nat)} {i : Nat} (h : ix[i]? = some none) : Own ix (gName i) := by
 intro x σ0 σ H Q a q
 refine ⟨q, by rw [List.length_set]; exact a.1, fun k j hk => ?_⟩
 rw [List.getElem?_set_ne]
 · exact a.2 k j hk
 · rintro rfl
   rw [h] at hk; cases hk
theorem comp_core {elt iter tg : Expr} {ifs : List Expr} {pos posc : Pos} {wi : TI} {g : TG} {tt : TT} {te : TE} (use : Option (Value → Sem Unit)) (QQ : Value → Shared → Prop) (hc : X.calm = true) (hi : PI X tg iter wi) (S : BlkScope X N' ix scope) (ow : Own ix g)
   (hg : ∀ C s H fp pins, PG (blk X N' scope C s H fp pins) tg g) (ht : ∀ C s H fp pins, PTs (blk X N' scope C s H fp pins) ifs tt) (he : ∀ C s H fp pins, PE (blk X N' scope C s H fp pins) elt te)
   (hs : ∀ x, foldedSetIterable iter X.env x = pure x) (pins : List (Addr × Obj)) (s : Shared) (σ : St) (H : Hp) (Q : VK) (I : Inv X pins σ H s) (h : tComp wi ix g tt te σ H Q)
   (hpost : ∀ (C D : Addr) (H5 : Hp) (s4 : Shared) (m : Str → Option Value), s4.heap.Ns C m → FpOk X pins H5 C → (∀ h', Heap.SameBut C s4.heap h' → Inv X pins σ H5 { s4 with heap := h' }) → Q (.ref D) H5 →
     compPost (model X.prog X.w) X.A X.xe use QQ (.ref D) C (.ok .next) s4) :
   wpAny (model X.prog X.w) X.A (comprehension (.ListComp elt [⟨tg, iter, ifs, 0⟩] scope pos) scope X.env posc (newList []) false (eval iter X.env) use) QQ X.xe s := by
 refine wpAny_comprehension_free (use := use) rfl hs (closureFor_eq scope X.env fun y hy hk => I.ok.has y.1 (S.frees y hy hk)) S.kind S.locs (thn (hi pins s σ H _ I h) fun v s1 h1 => thn h1 fun itv s2 h2 => ?_)
 obtain ⟨it, fp, tn, J, H2, e, I2, T, st2, f2, W, ⟨m0, w0⟩, turn⟩ := h2
 subst e
 have hfo : ∀ b ∈ fp, ∃ o, s2.heap.get? b = some o := fun b hb => let ⟨o, e, _⟩ := T.obj _ _ st2 b hb; ⟨o, e⟩
 refine wpAny_newObj_type (wpAny_newBlockEnv (fun h₁ eh₁ => ?_))
 dsimp only at eh₁ ⊢
 generalize hH2 : s2.heap.push { cls := .type "list", dict := none, data := .seq ([] : List Value).toArray } = Hp2 at eh₁ ⊢
 have hC : Hp2.objs.size = s2.heap.objs.size + 1 := by rw [← hH2, Heap.size_push]
 have old1 : ∀ b o, Hp2.get? b = some o → h₁.get? b = some o := fun b o e => by rw [eh₁]; exact pushCells_keeps _ _ _ _ (Heap.get?_push_of_some _ e)
 have hns : h₁.Ns Hp2.objs.size (fun _ => none) := by rw [eh₁]; exact (Heap.Ns.new Hp2 (.type "dict")).keeps (pushCells_keeps _ _)
 have hown : ∀ x c, (x, c) ∈ cellsFrom (Hp2.objs.size + 1) scope.names [] → h₁.IsCell c none := fun x c hm => by
   have ok := cellsFrom_ok scope.names (Hp2.push { cls := .type "dict", data := .dict #[] }) (Hp2.objs.size + 1) [] ⟨fun _ _ hm => (nomatch hm), List.Pairwise.nil⟩ (by rw [Heap.size_push]; exact Nat.le_refl _)
   rw [Heap.size_push] at ok
   rw [eh₁]
   exact (ok.empty x c hm).1
 generalize hCC : Hp2.objs.size = C at hns hown hC ⊢
 generalize hDD : s2.heap.objs.size = D at hC
 have hCge : s2.heap.objs.size ≤ C := by rw [hDD, hC]; exact Nat.le_succ _
 have hDge : s2.heap.objs.size ≤ D := Nat.le_of_eq hDD
 have hDC : D ≠ C := by rw [hC]; exact Nat.ne_of_lt (Nat.lt_succ_self _)
 have hDlt : D < C := by rw [hC]; exact Nat.lt_succ_self _
 have old : ∀ b o, s2.heap.get? b = some o → h₁.get? b = some o := fun b o e => old1 b o (hH2 ▸ Heap.get?_push_of_some _ e)
 have hacc : h₁.get? D = some { cls := .type "list", data := .seq ([] : List Value).toArray 0 } := old1 _ _ (hH2 ▸ hDD ▸ Heap.get?_push_size _ rfl)
 have stat : ∀ {H' : Hp}, (∀ b ∈ fp, H' b = none) → ∀ b ∈ fp, FpOk (blk X N' scope C s2 H2 fp pins) [] H' b := fun hn b hb => by
   obtain ⟨f0, f1, f2, f3, f4, f5⟩ := f2 b hb
   obtain ⟨o, ho⟩ := hfo b hb
   refine ⟨hn b hb, Nat.ne_of_lt (Nat.lt_of_lt_of_le (Heap.lt_size ho) hCge), fun z => ?_, .inl hb, fun x c e => ?_, fun p hp => ?_⟩
   · rcases List.mem_cons.mp (I2.stkSub _ z) with e | e
     · exact f1 e
     · exact f2 e
   · rcases blk_cells I2 S C e with ⟨a1, a2⟩ | ⟨a1, a2⟩
     · exact Nat.ne_of_gt (Nat.lt_trans (Nat.lt_of_lt_of_le (Heap.lt_size ho) hCge) a1)
     · exact f4 x c a2
   · have : p ∈ (X.pn ++ pins) ++ [] := hp
     exact f5 p (by simpa using this)
 have hDs : D ∉ (blk X N' scope C s2 H2 fp pins).fs := fun hb => by
   rcases List.mem_cons.mp (I2.stkSub _ hb) with e | e
   · rw [e] at hDge
     exact absurd (Nat.lt_of_lt_of_le I2.lt hDge) (Nat.lt_irrefl _)
   · exact I2.nofs hDge e
 have loop : ∀ s₃ : Shared, s₃ = { s2 with heap := h₁ } →
     codeAny (model X.prog X.w) X.A (.compLoop (.ListComp elt [⟨tg, iter, ifs, 0⟩] scope pos) 0 (.ref it) (.ref D) (compEnvC scope (cellsFrom (C + 1) scope.names [] ++ cloOf X.env scope.names []) C X.env))
       (compPost (model X.prog X.w) X.A X.xe use QQ (.ref D) C) s₃ := by
   rintro s₃ rfl
   refine codeAny_compLoop_gen (fun n s' => ∃ i ys its cap H', Inv (blk X N' scope C s2 H2 fp pins) [] (pick ix σ) H' s' ∧ tn i s'.heap ∧ (∀ b ∈ fp, H' b = none) ∧ H' D = none ∧
       s'.heap.get? D = some { cls := .type "list", data := .seq (its : List Value).toArray cap } ∧ Vals ys its ∧ W i n ys H') ?_ m0
     ⟨0, [], [], 0, H2, blk_start I2 f2 S hCge hfo hns old hown, T.keep _ _ _ st2 fun b _ o e => old b o e, fun b hb => (f2 b hb).1, I2.hok.fresh hDge, hacc, .nil, w0⟩
   rintro n s3 ⟨i, ys, its, cap, H3, I3, st3, fr3, hD3, ho3, r3, w3⟩
   have I3d : Inv (blk X N' scope C s2 H2 fp pins) [(D, { cls := .type "list", data := .seq its.toArray cap })] (pick ix σ) H3 s3 := I3.pins_of fun p hp => by
     have e : p = (D, { cls := .type "list", data := .seq its.toArray cap }) := by simpa using hp
     subst e
     exact ⟨ho3, hD3, hDC, hDs, fun v z => nomatch z⟩
   have statD : ∀ {H' : Hp}, (∀ b ∈ fp, H' b = none) → ∀ b ∈ fp, FpOk (blk X N' scope C s2 H2 fp pins) [(D, ({ cls := .type "list", data := .seq its.toArray cap } : Obj))] H' b := fun hn b hb => by
     obtain ⟨f0, f1, f2, f3, f4, f5⟩ := stat hn b hb
     obtain ⟨o, ho⟩ := hfo b hb
     refine ⟨f0, f1, f2, f3, f4, fun p hp => ?_⟩
     rcases List.mem_append.mp hp with z | z
     · exact f5 p (List.mem_append_left _ z)
     · have e : p = (D, ({ cls := .type "list", data := .seq its.toArray cap } : Obj)) := by simpa using z
       subst e
       exact Nat.ne_of_gt (Nat.lt_of_lt_of_le (Heap.lt_size ho) hDge)
   rcases turn i n ys H3 w3 with ⟨stop, hz, qn⟩ | ⟨go, hz, step⟩
   · refine wpAny_noRaise (thn (T.done (blk X N' scope C s2 H2 fp pins) rfl rfl rfl hc i _ s3 (pick ix σ) H3 (fun _ _ => False) I3d (statD fr3) st3 stop) fun r s4 ⟨hr, I4⟩ => ?_)
     subst hr
     obtain ⟨e4, n4, _⟩ := I4.pin (D, _) (List.mem_append_right _ (List.mem_singleton.mpr rfl))
     obtain ⟨m, hn, _⟩ := id I4.loc
     have hC4 : H3 C = none := I4.free
     exact hpost C D _ _ m hn (I2.fpOk hCge (by rw [upd_ne (Ne.symm hDC)]; exact hC4)) (fun h' sb => blk_end I2 f2 hCge hDge hDC (Inv.unpinned (pl := [(D, _)]) (pins := []) I4) n4 e4 r3 hz sb) (qn D n4)
   · refine wpAny_noRaise (thn (T.item (blk X N' scope C s2 H2 fp pins) rfl rfl rfl hc i _ s3 (pick ix σ) H3 (fun _ _ => False) I3d (statD fr3) st3 go) fun r s4 ⟨u, hr, h4⟩ => ?_)
     subst hr
     refine wpAny_noRaise (thn h4 fun _ s5 ⟨x, H5, I5, r5, y5, st5, fr5⟩ => ?_)
     have I5' := I5.pinned (statD fr5) (T.obj _ _ st5)
     have again : ∀ {σ7 : St} {H7 : Hp} {s7 : Shared}, Inv (blk X N' scope C s2 H2 fp pins) ([(D, ({ cls := .type "list", data := .seq its.toArray cap } : Obj))] ++ pinsAt fp s5.heap) σ7 H7 s7 →
         H7 D = none ∧ s7.heap.get? D = some { cls := .type "list", data := .seq its.toArray cap } ∧ tn (i + 1) s7.heap ∧ ∀ b ∈ fp, H7 b = none := fun {σ7 H7 s7} I7 => by
       obtain ⟨e7, n7, _⟩ := I7.pin (D, _) (List.mem_append_right _ (List.mem_append_left _ (List.mem_singleton.mpr rfl)))
       refine ⟨n7, e7, T.keep _ _ _ st5 fun b hb o e => (I7.pin (b, o) (List.mem_append_right _ (List.mem_append_right _ (mem_pinsAt hb e)))).1, fun b hb => ?_⟩
       obtain ⟨o, e, d⟩ := T.obj _ _ st5 b hb
       exact (I7.pin (b, o) (List.mem_append_right _ (List.mem_append_right _ (mem_pinsAt hb e)))).2.1
     have forget : ∀ {σ7 : St} {H7 : Hp} {s7 : Shared}, Inv (blk X N' scope C s2 H2 fp pins) ([(D, ({ cls := .type "list", data := .seq its.toArray cap } : Obj))] ++ pinsAt fp s5.heap) σ7 H7 s7 →
         (∀ (k : Nat) v, (pick ix σ)[k]? = some (some v) → σ7[k]? = some (some v)) → σ7.length = (pick ix σ).length → Inv (blk X N' scope C s2 H2 fp pins) [] (pick ix σ) H7 s7 := fun {σ7 H7 s7} I7 hk hl =>
       (I7.pins_of (pins' := []) fun _ z => nomatch z).weak hl.symm hk
     refine wpAny_noRaise (thn (hg C s2 H2 fp pins _ s5 (pick ix σ) H5 x u _ I5' r5 (ow _ _ _ _ _ ⟨rfl, fun _ _ _ => rfl⟩ (step x H5 y5))) fun _ s6 ⟨σ6, H6, I6, q6, l6, k6⟩ => ?_)
     have back : ∀ (k : Nat) v, (pick ix σ)[k]? = some (some v) → σ6[k]? = some (some v) := fun k v e => by
       obtain ⟨j, e1, _⟩ := pick_get e
       rw [k6 k j e1]; exact e
     refine wpAny_noRaise (thn (ht C s2 H2 fp pins _ s6 σ6 H6 _ I6 q6) fun ok s7 ⟨H7, I7, q7⟩ => ?_)
     cases ok with
     | false =>
       rw [if_neg Bool.false_ne_true]
       rw [if_neg Bool.false_ne_true] at q7
       obtain ⟨m', hm, w7⟩ := q7
       obtain ⟨a1, a2, a3, a4⟩ := again I7
       exact ⟨m', hm, i + 1, ys, its, cap, H7, forget I7 back l6, a3, a4, a1, a2, r3, w7⟩
     | true =>
       rw [if_pos rfl]
       rw [if_pos rfl] at q7
       refine wpAny_noRaise (thn (he C s2 H2 fp pins _ s7 σ6 H7 _ I7 q7) fun z s8 ⟨y, H8, I8, r8, m', hm, w8⟩ => ?_)
       obtain ⟨a1, a2, a3, a4⟩ := again I8
       have hl := r3.length
       refine wpAny_noRaise (wpAny_list_append_plain ⟨_, a2⟩ (fun h9 ⟨cap9, p9⟩ sb9 => ?_) (by rw [List.size_toArray, ← hl]; exact Nat.le_of_lt hz))
       have I9 : Inv (blk X N' scope C s2 H2 fp pins) [] (pick ix σ) H8 { s8 with heap := h9 } :=
         (forget I8 back l6).turned (t' := s8.toks) (it := D) (fun b o hb e => sb9.extBut b o hb e) a1 hDC (.inr hDge) (fun x c e => by
           rcases blk_cells I2 S C e with ⟨a1, a2⟩ | ⟨a1, a2⟩
           · exact Nat.ne_of_gt (Nat.lt_trans hDlt a1)
           · obtain ⟨v, z⟩ := I2.cell x c a2
             exact Nat.ne_of_lt (Nat.lt_of_lt_of_le z.lt hDge)) (fun p hp => by
           have hp' : p ∈ (X.pn ++ pins) ++ [] := hp
           exact Nat.ne_of_lt (Nat.lt_of_lt_of_le (Heap.lt_size (I2.pin p (by simpa using hp')).1) hDge))
       refine ⟨m', hm, i + 1, ys ++ [y], its ++ [z], cap9, H8, I9, ?_, a4, a1, ?_, r3.append (.cons r8 .nil), w8⟩
       · refine T.keep _ _ _ a3 fun b hb o e => sb9.extBut b o ?_ e
         obtain ⟨o', ho'⟩ := hfo b hb
         exact Nat.ne_of_lt (Nat.lt_of_lt_of_le (Heap.lt_size ho') hDge)
       · rw [p9]; simp
 exact codeAny_compStart_list (loop _ rfl) (T.self _ _ _ _ _ (T.keep _ _ _ st2 fun b _ o e => old b o e) (loop _ rfl))
theorem pe_comp {elt iter tg : Expr} {ifs : List Expr} {pos : Pos} {wi : TI} {g : TG} {tt : TT} {te : TE} (hc : X.calm = true) (hi : PI X tg iter wi) (S : BlkScope X N' ix scope) (ow : Own ix g)
   (hg : ∀ C s H fp pins, PG (blk X N' scope C s H fp pins) tg g) (ht : ∀ C s H fp pins, PTs (blk X N' scope C s H fp pins) ifs tt) (he : ∀ C s H fp pins, PE (blk X N' scope C s H fp pins) elt te)
   (hs : ∀ x, foldedSetIterable iter X.env x = pure x := by intro _; rfl) :
   PE X (.ListComp elt [⟨tg, iter, ifs, 0⟩] scope pos) (tComp wi ix g tt te) := by
 intro pins s σ H Q I h
 rw [eval_ListComp]
 exact comp_core none (EP X pins σ Q) hc hi S ow hg ht he hs pins s σ H Q I h fun C D H5 s4 m hn _ inv q => ⟨m, hn, fun h' sb => ⟨.ref D, H5, inv h' sb, rfl, q⟩⟩
end L2
namespace L2
open PySem PySem.Spec PyProof.Rows
noncomputable def relabelS (scope outer : Scope) : Scope :=
 { scope with names := scope.names.map fun (n, k) => if (k == .free && outer.kind == .function && outer.names.lookup n == some .cell) then (n, .cell) else (n, k) }
theorem relabel_look {scope : Scope} {env : Env} {x : Str} {k : NameKind} (h : (relabel scope env).names.lookup x = some k) (hk : k = .cell ∨ k = .free) : (x, NameKind.free) ∈ scope.names ∨ (x, NameKind.cell) ∈ scope.names := by
 have hm : (x, k) ∈ (relabel scope env).names := PySem.mem_of_lookup h
 unfold relabel at hm
 obtain ⟨⟨n, k0⟩, h1, h2⟩ := List.mem_map.mp hm
 dsimp only at h2
 split at h2
 · rename_i hc
   have e1 : n = x := (Prod.mk.inj h2).1
   subst e1
   have : k0 = NameKind.free := by
     simp only [Bool.and_eq_true, beq_iff_eq] at hc
     exact hc.1.1
   rw [this] at h1; exact .inl h1
 · have e1 := Prod.mk.inj h2
   obtain ⟨rfl, rfl⟩ := e1
   rcases hk with rfl | rfl
   · exact .inr h1
   · exact .inl h1
noncomputable def blkB (outer : Scope) (N N' : List Str) (ix : List (Option Nat)) (scope : Scope) : Bool :=
 decide (scope.kind = .function) && decide (outer.kind = .function) && scope.names.all (fun y => decide (y.2 = .local → scope.names.lookup y.1 = some .local)) &&
 scope.names.all (fun y => decide (y.2 = .free → (outer.names.lookup y.1 = some .cell ∨ outer.names.lookup y.1 = some .free))) && decide (ix.length = N'.length) &&
 (List.range ix.length).all fun i => match ix[i]?, N'[i]? with
   | some (some j), some x => decide (N[j]? = some x) && decide ((x, NameKind.free) ∈ scope.names) && !ownB scope.names x &&
     decide ((relabelS scope outer).names.lookup x = outer.names.lookup x)
   | _, _ => true
theorem blk_scope {X : Cx} {outer scope : Scope} {N N' : List Str} {ix : List (Option Nat)} (h : blkB outer N N' ix scope = true) (ho : X.env.scope = outer) (hN : X.N = N) : BlkScope X N' ix scope := by
 unfold blkB at h
 simp only [Bool.and_eq_true, decide_eq_true_eq, List.all_eq_true] at h
 obtain ⟨⟨⟨⟨⟨h1, h2⟩, h4⟩, h5⟩, h6⟩, h7⟩ := h
 subst ho hN
 refine ⟨h1, h4, h5, fun x k hl hk => relabel_look hl hk, h6, fun i j x e1 e2 => ?_⟩
 have hi : i < ix.length := (List.getElem?_eq_some_iff.mp e1).1
 have q := h7 i (List.mem_range.mpr hi)
 rw [e1, e2] at q
 simp only [Bool.and_eq_true, decide_eq_true_eq, Bool.not_eq_true'] at q
 exact ⟨q.1.1.1, q.1.1.2, q.1.2, q.2⟩
theorem PE.imp {X : Cx} {e : Expr} {t t' : TE} (h : PE X e t) (f : ∀ σ H Q, t' σ H Q → t σ H Q) : PE X e t' := fun pins s σ H Q I q => h pins s σ H Q I (f σ H Q q)
theorem PT.imp {X : Cx} {e : Expr} {t t' : TT} (h : PT X e t) (f : ∀ σ H Q, t' σ H Q → t σ H Q) : PT X e t' := fun pins s σ H Q I q => h pins s σ H Q I (f σ H Q q)
theorem PA.imp {X : Cx} {e : List Expr} {t t' : TA} (h : PA X e t) (f : ∀ σ H Q, t' σ H Q → t σ H Q) : PA X e t' := fun pos pins s σ H Q I q => h pos pins s σ H Q I (f σ H Q q)
theorem PS.imp {X : Cx} {e : Stmt} {t t' : TS} (h : PS X e t) (f : ∀ D σ H, t' D σ H → t D σ H) : PS X e t' := fun pins s σ H D I q => h pins s σ H D I (f D σ H q)
theorem PSs.imp {X : Cx} {e : List Stmt} {t t' : TS} (h : PSs X e t) (f : ∀ D σ H, t' D σ H → t D σ H) : PSs X e t' := fun pins s σ H D I q => h pins s σ H D I (f D σ H q)
end L2
namespace L2
open PySem PySem.Spec PyProof.Rows
inductive T where
 | non | bl (b : Bool) | int (i : Int) | str (x : Str) | tup (ts : List T) | adr (a : Addr)
 /-- a list that never changes (the script; a module's own) -/
 | rd (ts : List T)
 /-- a dict with int keys that never changes behind its display -/
 | dic (ks : List Int) (ts : List T)
noncomputable def FzL (K : PySem.W.Frag) (H : Hp) (a : Addr) (xs : List V) : Prop :=
 (∃ o, H a = some (.frz o (.lst xs))) ∨
   ∃ (o : Obj) (its : Array Value) (n : Nat), K.lookup a = some o ∧ o.cls = .type "list" ∧ o.dict = none ∧ o.data = .seq its n ∧ its.size ≤ sizeLine ∧ Vals xs its.toList
theorem FzL.sq {K : PySem.W.Frag} {H : Hp} {a : Addr} {xs : List V} (h : FzL K H a xs) : SqL K H a xs := by
 rcases h with ⟨o, h⟩ | h
 · exact .inl (.inr ⟨o, h⟩)
 · exact .inr h
mutual
noncomputable def Rep (K : PySem.W.Frag) (H : Hp) : V → T → Prop
 | v, .non => v = .non
 | v, .bl b => v = .bl b
 | v, .int i => v = .int i
 | v, .str x => v = .str x
 | v, .adr a => v = .ref a
 | v, .tup ts => ∃ a xs, v = .ref a ∧ SqT K H a xs ∧ Reps K H xs ts
 | v, .rd ts => ∃ a xs, v = .ref a ∧ FzL K H a xs ∧ Reps K H xs ts
 | v, .dic _ _ => False
noncomputable def Reps (K : PySem.W.Frag) (H : Hp) : List V → List T → Prop
 | vs, [] => vs = []
 | vs, t :: ts => ∃ v r, vs = v :: r ∧ Rep K H v t ∧ Reps K H r ts
end
structure Kp (K : PySem.W.Frag) (H H' : Hp) : Prop where
 tup : ∀ a xs, SqT K H a xs → SqT K H' a xs
 frz : ∀ a o u, H a = some (.frz o u) → H' a = some (.frz o u)
theorem Kp.refl {K : PySem.W.Frag} {H : Hp} : Kp K H H := ⟨fun _ _ h => h, fun _ _ _ h => h⟩
theorem Kp.trans {K : PySem.W.Frag} {H H1 H2 : Hp} (a : Kp K H H1) (b : Kp K H1 H2) : Kp K H H2 := ⟨fun _ _ h => b.tup _ _ (a.tup _ _ h), fun _ _ _ h => b.frz _ _ _ (a.frz _ _ _ h)⟩
structure KpW (K : PySem.W.Frag) (H H' : Hp) : Prop where
 tup : ∀ a xs, SqT K H a xs → SqT K H' a xs
 frz : ∀ a o u, H a = some (.frz o u) → H' a = some (.frz o u)
theorem Kp.w {K : PySem.W.Frag} {H H' : Hp} (k : Kp K H H') : KpW K H H' := ⟨k.tup, k.frz⟩
theorem KpW.fz {K : PySem.W.Frag} {H H' : Hp} {a : Addr} {xs : List V} (k : KpW K H H') (h : FzL K H a xs) : FzL K H' a xs := by
 rcases h with ⟨o, h⟩ | h
 · exact .inl ⟨o, k.frz _ _ _ h⟩
 · exact .inr h
mutual
theorem Rep.kw {K : PySem.W.Frag} {H H' : Hp} (k : KpW K H H') : ∀ (v : V) (t : T), Rep K H v t → Rep K H' v t
 | v, .non, h => h
 | v, .bl b, h => h
 | v, .int i, h => h
 | v, .str x, h => h
 | v, .adr a, h => h
 | v, .tup ts, h => by
   unfold Rep at h ⊢
   obtain ⟨a, xs, e, h1, h2⟩ := h
   exact ⟨a, xs, e, k.tup _ _ h1, Reps.kw k xs ts h2⟩
 | v, .rd ts, h => by
   unfold Rep at h ⊢
   obtain ⟨a, xs, e, h1, h2⟩ := h
   exact ⟨a, xs, e, k.fz h1, Reps.kw k xs ts h2⟩
 | v, .dic ks ts, h => by
   unfold Rep at h; exact h.elim
theorem Reps.kw {K : PySem.W.Frag} {H H' : Hp} (k : KpW K H H') : ∀ (vs : List V) (ts : List T), Reps K H vs ts → Reps K H' vs ts
 | vs, [], h => h
 | vs, t :: ts, h => by
   unfold Reps at h ⊢
   obtain ⟨v, r, e, h1, h2⟩ := h
   exact ⟨v, r, e, Rep.kw k v t h1, Reps.kw k r ts h2⟩
end
theorem Rep.kp {K : PySem.W.Frag} {H H' : Hp} (k : Kp K H H') (v : V) (t : T) (h : Rep K H v t) : Rep K H' v t := Rep.kw k.w v t h
theorem Reps.kp {K : PySem.W.Frag} {H H' : Hp} (k : Kp K H H') (vs : List V) (ts : List T) (h : Reps K H vs ts) : Reps K H' vs ts := Reps.kw k.w vs ts h
section
variable {K : PySem.W.Frag} {H : Hp}
theorem Reps.cons {v : V} {t : T} {vs : List V} {ts : List T} (h : Rep K H v t) (r : Reps K H vs ts) : Reps K H (v :: vs) (t :: ts) := by
 unfold Reps; exact ⟨v, vs, rfl, h, r⟩
theorem Reps.nil : Reps K H [] [] := by unfold Reps; rfl
theorem Reps.length : ∀ {vs : List V} {ts : List T}, Reps K H vs ts → vs.length = ts.length
 | vs, [], h => by unfold Reps at h; subst h; rfl
 | vs, t :: ts, h => by
   unfold Reps at h
   obtain ⟨v, r, rfl, _, h2⟩ := h
   rw [List.length_cons, List.length_cons, Reps.length h2]
theorem Reps.get : ∀ {vs : List V} {ts : List T} {i : Nat} {t : T}, Reps K H vs ts → ts[i]? = some t → ∃ v, vs[i]? = some v ∧ Rep K H v t
 | _, [], _, _, _, e => by simp at e
 | vs, t :: ts, 0, u, h, e => by
   unfold Reps at h
   obtain ⟨v, r, rfl, h1, _⟩ := h
   simp at e; subst e
   exact ⟨v, rfl, h1⟩
 | vs, t :: ts, i + 1, u, h, e => by
   unfold Reps at h
   obtain ⟨v, r, rfl, _, h2⟩ := h
   obtain ⟨w, q1, q2⟩ := Reps.get (i := i) h2 (by simpa using e)
   exact ⟨w, by simpa using q1, q2⟩
theorem Reps.append : ∀ {vs : List V} {ts : List T} {ws : List V} {us : List T}, Reps K H vs ts → Reps K H ws us → Reps K H (vs ++ ws) (ts ++ us)
 | vs, [], _, _, h, g => by unfold Reps at h; subst h; exact g
 | vs, t :: ts, _, _, h, g => by
   unfold Reps at h
   obtain ⟨v, r, rfl, h1, h2⟩ := h
   exact .cons h1 (Reps.append h2 g)
theorem Reps.take : ∀ {vs : List V} {ts : List T} (n : Nat), Reps K H vs ts → Reps K H (vs.take n) (ts.take n)
 | _, _, 0, _ => .nil
 | vs, [], n + 1, h => by unfold Reps at h; subst h; exact .nil
 | vs, t :: ts, n + 1, h => by
   unfold Reps at h
   obtain ⟨v, r, rfl, h1, h2⟩ := h
   exact .cons h1 (Reps.take n h2)
theorem Reps.drop : ∀ {vs : List V} {ts : List T} (n : Nat), Reps K H vs ts → Reps K H (vs.drop n) (ts.drop n)
 | _, _, 0, h => h
 | vs, [], n + 1, h => by unfold Reps at h; subst h; exact .nil
 | vs, t :: ts, n + 1, h => by
   unfold Reps at h
   obtain ⟨v, r, rfl, h1, h2⟩ := h
   exact Reps.drop n h2
theorem Reps.set {v : V} {t : T} (g : Rep K H v t) : ∀ {vs : List V} {ts : List T} (n : Nat), Reps K H vs ts → Reps K H (vs.set n v) (ts.set n t)
 | vs, [], n, h => by unfold Reps at h; subst h; exact .nil
 | vs, u :: ts, 0, h => by
   unfold Reps at h
   obtain ⟨v, r, rfl, h1, h2⟩ := h
   exact .cons g h2
 | vs, u :: ts, n + 1, h => by
   unfold Reps at h
   obtain ⟨v, r, rfl, h1, h2⟩ := h
   exact .cons h1 (Reps.set g n h2)
theorem Reps.reverse : ∀ {vs : List V} {ts : List T}, Reps K H vs ts → Reps K H vs.reverse ts.reverse
 | vs, [], h => by unfold Reps at h; subst h; exact .nil
 | vs, u :: ts, h => by
   unfold Reps at h
   obtain ⟨v, r, rfl, h1, h2⟩ := h
   rw [List.reverse_cons, List.reverse_cons]
   exact (Reps.reverse h2).append (.cons h1 .nil)
theorem Reps.dropLast : ∀ {vs : List V} {ts : List T}, Reps K H vs ts → Reps K H vs.dropLast ts.dropLast
 | vs, [], h => by unfold Reps at h; subst h; exact .nil
 | vs, [u], h => by
   unfold Reps at h
   obtain ⟨v, r, rfl, h1, h2⟩ := h
   unfold Reps at h2; subst h2; exact .nil
 | vs, u :: t :: ts, h => by
   unfold Reps at h
   obtain ⟨v, r, rfl, h1, h2⟩ := h
   have h2' := h2
   unfold Reps at h2'
   obtain ⟨v', r', rfl, _, _⟩ := h2'
   exact .cons h1 (Reps.dropLast h2)
theorem Reps.ints : ∀ {vs : List V} {ns : List Int}, Reps K H vs (ns.map T.int) → vs = ns.map V.int
 | vs, [], h => by unfold Reps at h; exact h
 | vs, n :: ns, h => by
   have h' : Reps K H vs (T.int n :: ns.map T.int) := h
   unfold Reps at h'
   obtain ⟨v, r, rfl, h1, h2⟩ := h'
   unfold Rep at h1
   subst h1
   rw [List.map_cons, Reps.ints h2]
theorem Reps.of_ints : ∀ (ns : List Int), Reps K H (ns.map V.int) (ns.map T.int)
 | [] => .nil
 | n :: ns => .cons (by unfold Rep; rfl) (Reps.of_ints ns)
end
inductive MO where
 /-- a list that may be written -/
 | lst (ts : List T)
 /-- a dict that may be written: keys whole numbers or texts -/
 | dk (kvs : List (Key × T))
 /-- the same, keys tuples of such -/
 | dt (kvs : List (List Key × T))
noncomputable abbrev MH := Addr → Option MO
noncomputable def updM (M : MH) (a : Addr) (o : MO) : MH := fun b => if b = a then some o else M b
theorem updM_same {M : MH} {a : Addr} {o : MO} : updM M a o a = some o := if_pos rfl
theorem updM_ne {M : MH} {a b : Addr} {o : MO} (h : b ≠ a) : updM M a o b = M b := if_neg h
noncomputable def Sub (M M' : MH) : Prop := ∀ a o, M a = some o → M' a = some o
theorem Sub.refl {M : MH} : Sub M M := fun _ _ h => h
theorem Sub.trans {M M1 M2 : MH} (a : Sub M M1) (b : Sub M1 M2) : Sub M M2 := fun _ _ h => b _ _ (a _ _ h)
theorem Sub.new {M : MH} {p : Addr} {o : MO} (h : M p = none) : Sub M (updM M p o) := fun b u q => by
 rw [updM_ne]
 · exact q
 · rintro rfl
   rw [h] at q; cases q
noncomputable def KRep {κ : Type} (K : PySem.W.Frag) (H : Hp) : List (κ × V) → List (κ × T) → Prop
 | [], [] => True
 | p :: r, q :: u => p.1 = q.1 ∧ Rep K H p.2 q.2 ∧ KRep K H r u
 | _, _ => False
theorem KRep.kp {κ : Type} {K : PySem.W.Frag} {H H' : Hp} (k : Kp K H H') : ∀ {xs : List (κ × V)} {kvs : List (κ × T)}, KRep K H xs kvs → KRep K H' xs kvs
 | [], [], _ => trivial
 | p :: r, q :: u, h => ⟨h.1, Rep.kp k _ _ h.2.1, KRep.kp k h.2.2⟩
 | [], q :: u, h => h.elim
 | p :: r, [], h => h.elim
theorem KRep.length {κ : Type} {K : PySem.W.Frag} {H : Hp} : ∀ {xs : List (κ × V)} {kvs : List (κ × T)}, KRep K H xs kvs → xs.length = kvs.length
 | [], [], _ => rfl
 | p :: r, q :: u, h => by rw [List.length_cons, List.length_cons, KRep.length h.2.2]
 | [], q :: u, h => h.elim
 | p :: r, [], h => h.elim
noncomputable def MOk (K : PySem.W.Frag) (H : Hp) (a : Addr) : MO → Prop
 | .lst ts => ∃ xs, H a = some (.lst xs) ∧ Reps K H xs ts
 | .dk kvs => ∃ xs, H a = some (.dK xs) ∧ KRep K H xs kvs
 | .dt kvs => ∃ xs, H a = some (.dT xs) ∧ KRep K H xs kvs
noncomputable def HR (K : PySem.W.Frag) (H : Hp) (M : MH) : Prop := ∀ a o, M a = some o → MOk K H a o
theorem HR.sub {K : PySem.W.Frag} {H : Hp} {M M' : MH} (h : HR K H M') (s : Sub M M') : HR K H M := fun a o e => h a o (s a o e)
noncomputable abbrev En := List (Option T)
noncomputable def RhoR (K : PySem.W.Frag) (σ : St) (H : Hp) (ρ : En) : Prop := σ.length = ρ.length ∧ ∀ (i : Nat) (t : T), ρ[i]? = some (some t) → ∃ v, σ[i]? = some (some v) ∧ Rep K H v t
theorem RhoR.kp {K : PySem.W.Frag} {σ : St} {H H' : Hp} {ρ : En} (h : RhoR K σ H ρ) (k : Kp K H H') : RhoR K σ H' ρ := ⟨h.1, fun i t e => let ⟨v, a, b⟩ := h.2 i t e; ⟨v, a, Rep.kp k _ _ b⟩⟩
theorem RhoR.set {K : PySem.W.Frag} {σ : St} {H : Hp} {ρ : En} {v : V} {t : T} (h : RhoR K σ H ρ) (i : Nat) (r : Rep K H v t) : RhoR K (σ.set i (some v)) H (ρ.set i (some t)) := by
 refine ⟨by rw [List.length_set, List.length_set, h.1], fun j u e => ?_⟩
 by_cases hj : i = j
 · subst hj
   have hi : i < ρ.length := by
     have := (List.getElem?_eq_some_iff.mp e).1
     rwa [List.length_set] at this
   rw [List.getElem?_set_self hi] at e
   cases e
   exact ⟨v, List.getElem?_set_self (show i < List.length σ by rw [h.1]; exact hi), r⟩
 · rw [List.getElem?_set_ne hj] at e
   rw [List.getElem?_set_ne hj]
   exact h.2 j u e
noncomputable abbrev VK3 := T → MH → Prop
noncomputable abbrev TE3 := En → MH → VK3 → Prop
noncomputable abbrev TT3 := En → MH → (Bool → MH → Prop) → Prop
noncomputable abbrev TA3 := En → MH → (List T → MH → Prop) → Prop
structure Ends3 where
 nx : En → MH → Prop
 rt : VK3
 bk : En → MH → Prop := fun _ _ => False
 ct : En → MH → Prop := fun _ _ => False
noncomputable abbrev TS3 := Ends3 → En → MH → Prop
noncomputable def EndE (K : PySem.W.Frag) (H : Hp) (Q : VK3) (Q2 : VK) : Prop := ∀ t v M' H', Kp K H H' → HR K H' M' → Rep K H' v t → Q t M' → Q2 v H'
theorem EndE.kp {K : PySem.W.Frag} {H H' : Hp} {Q : VK3} {Q2 : VK} (h : EndE K H Q Q2) (k : Kp K H H') : EndE K H' Q Q2 := fun t v M' H1 k1 => h t v M' H1 (k.trans k1)
noncomputable def bE (K : PySem.W.Frag) (ρ : En) (M : MH) (Q : VK3) : TE := fun σ H Q2 => RhoR K σ H ρ ∧ HR K H M ∧ EndE K H Q Q2
noncomputable def HE (X : Cx) (e : Expr) (t : TE3) : Prop := ∀ ρ M Q, t ρ M Q → PE X e (bE X.K ρ M Q)
noncomputable def EndT (K : PySem.W.Frag) (H : Hp) (Q : Bool → MH → Prop) (Q2 : Bool → Hp → Prop) : Prop := ∀ b M' H', Kp K H H' → HR K H' M' → Q b M' → Q2 b H'
noncomputable def bT (K : PySem.W.Frag) (ρ : En) (M : MH) (Q : Bool → MH → Prop) : TT := fun σ H Q2 => RhoR K σ H ρ ∧ HR K H M ∧ EndT K H Q Q2
noncomputable def HT (X : Cx) (e : Expr) (t : TT3) : Prop := ∀ ρ M Q, t ρ M Q → PT X e (bT X.K ρ M Q)
noncomputable def EndA (K : PySem.W.Frag) (H : Hp) (Q : List T → MH → Prop) (Q2 : List V → Hp → Prop) : Prop := ∀ ts vs M' H', Kp K H H' → HR K H' M' → Reps K H' vs ts → Q ts M' → Q2 vs H'
noncomputable def bA (K : PySem.W.Frag) (ρ : En) (M : MH) (Q : List T → MH → Prop) : TA := fun σ H Q2 => RhoR K σ H ρ ∧ HR K H M ∧ EndA K H Q Q2
noncomputable def HA (X : Cx) (es : List Expr) (t : TA3) : Prop := ∀ ρ M Q, t ρ M Q → PA X es (bA X.K ρ M Q)
structure EndS (K : PySem.W.Frag) (H : Hp) (D : Ends3) (D2 : Ends) : Prop where
 nx : ∀ ρ' M' σ' H', Kp K H H' → RhoR K σ' H' ρ' → HR K H' M' → D.nx ρ' M' → D2.nx σ' H'
 rt : EndE K H D.rt D2.rt
 bk : ∀ ρ' M' σ' H', Kp K H H' → RhoR K σ' H' ρ' → HR K H' M' → D.bk ρ' M' → D2.bk σ' H'
 ct : ∀ ρ' M' σ' H', Kp K H H' → RhoR K σ' H' ρ' → HR K H' M' → D.ct ρ' M' → D2.ct σ' H'
theorem EndS.kp {K : PySem.W.Frag} {H H' : Hp} {D : Ends3} {D2 : Ends} (h : EndS K H D D2) (k : Kp K H H') : EndS K H' D D2 :=
 ⟨fun a b c d k1 => h.nx a b c d (k.trans k1), h.rt.kp k, fun a b c d k1 => h.bk a b c d (k.trans k1), fun a b c d k1 => h.ct a b c d (k.trans k1)⟩
noncomputable def bS (K : PySem.W.Frag) (D : Ends3) (ρ : En) (M : MH) : TS := fun D2 σ H => RhoR K σ H ρ ∧ HR K H M ∧ EndS K H D D2
noncomputable def HS (X : Cx) (st : Stmt) (t : TS3) : Prop := ∀ D ρ M, t D ρ M → PS X st (bS X.K D ρ M)
noncomputable def HSs (X : Cx) (st : List Stmt) (t : TS3) : Prop := ∀ D ρ M, t D ρ M → PSs X st (bS X.K D ρ M)
noncomputable def dE (K : PySem.W.Frag) (ρ : En) (t : TE3) : TE := fun σ H Q2 => ∃ M Q, t ρ M Q ∧ bE K ρ M Q σ H Q2
noncomputable def dT (K : PySem.W.Frag) (ρ : En) (t : TT3) : TT := fun σ H Q2 => ∃ M Q, t ρ M Q ∧ bT K ρ M Q σ H Q2
noncomputable def dA (K : PySem.W.Frag) (ρ : En) (t : TA3) : TA := fun σ H Q2 => ∃ M Q, t ρ M Q ∧ bA K ρ M Q σ H Q2
noncomputable def dS (K : PySem.W.Frag) (t : TS3) : TS := fun D2 σ H => ∃ D ρ M, t D ρ M ∧ bS K D ρ M D2 σ H
section
variable {X : Cx} {e : Expr} {es : List Expr} {st : Stmt} {sts : List Stmt} {ρ : En}
theorem HE.d {t : TE3} (h : HE X e t) : PE X e (dE X.K ρ t) := fun pins s σ H Q I ⟨M, Q3, q, b⟩ => h ρ M Q3 q pins s σ H Q I b
theorem HT.d {t : TT3} (h : HT X e t) : PT X e (dT X.K ρ t) := fun pins s σ H Q I ⟨M, Q3, q, b⟩ => h ρ M Q3 q pins s σ H Q I b
theorem HA.d {t : TA3} (h : HA X es t) : PA X es (dA X.K ρ t) := fun pos pins s σ H Q I ⟨M, Q3, q, b⟩ => h ρ M Q3 q pos pins s σ H Q I b
theorem HS.d {t : TS3} (h : HS X st t) : PS X st (dS X.K t) := fun pins s σ H D I ⟨D3, ρ, M, q, b⟩ => h D3 ρ M q pins s σ H D I b
theorem HSs.d {t : TS3} (h : HSs X sts t) : PSs X sts (dS X.K t) := fun pins s σ H D I ⟨D3, ρ, M, q, b⟩ => h D3 ρ M q pins s σ H D I b
end
end L2
namespace L2
open PySem PySem.Spec PyProof.Rows
mutual
noncomputable def eqT : T → T → Bool
 | .non, .non => true
 | .bl a, .bl b => a == b
 | .bl a, .int b => (if a then 1 else 0) == b
 | .int a, .bl b => a == (if b then 1 else 0)
 | .int a, .int b => a == b
 | .str a, .str b => a == b
 | .tup a, .tup b => eqTs a b
 | _, _ => false
noncomputable def eqTs : List T → List T → Bool
 | [], [] => true
 | x :: xs, y :: ys => eqT x y && eqTs xs ys
 | _, _ => false
end
mutual
noncomputable def pureT : T → Bool
 | .adr _ => false
 | .rd _ => false
 | .dic _ _ => false
 | .tup ts => pureTs ts
 | _ => true
noncomputable def pureTs : List T → Bool
 | [] => true
 | t :: ts => pureT t && pureTs ts
end
mutual
noncomputable def depT : T → Nat
 | .tup ts => depTs ts + 1
 | _ => 0
noncomputable def depTs : List T → Nat
 | [] => 0
 | t :: ts => max (depT t) (depTs ts)
end
theorem pureTs_get : ∀ {ts : List T} {j : Nat} {t : T}, pureTs ts = true → ts[j]? = some t → pureT t = true
 | [], _, _, _, e => by simp at e
 | x :: ts, 0, t, h, e => by simp at e; subst e; unfold pureTs at h; exact (Bool.and_eq_true _ _ ▸ h).1
 | x :: ts, j + 1, t, h, e => by
   unfold pureTs at h
   exact pureTs_get (j := j) (Bool.and_eq_true _ _ ▸ h).2 (by simpa using e)
theorem depTs_get : ∀ {ts : List T} {j : Nat} {t : T}, ts[j]? = some t → depT t ≤ depTs ts
 | [], _, _, e => by simp at e
 | x :: ts, 0, t, e => by simp at e; subst e; unfold depTs; exact Nat.le_max_left _ _
 | x :: ts, j + 1, t, e => by
   have := depTs_get (ts := ts) (j := j) (t := t) (by simpa using e)
   unfold depTs; exact Nat.le_trans this (Nat.le_max_right _ _)
noncomputable def eqJ (xs ys : List T) (j : Nat) : Bool := match xs[j]?, ys[j]? with
 | some x, some y => eqT x y
 | _, _ => true
theorem eqTs_range : ∀ (xs ys : List T), (((List.range (min xs.length ys.length)).all (eqJ xs ys)) && (xs.length == ys.length)) = eqTs xs ys
 | [], [] => by unfold eqTs; rfl
 | [], y :: ys => by unfold eqTs; simp
 | x :: xs, [] => by unfold eqTs; simp
 | x :: xs, y :: ys => by
   unfold eqTs
   rw [← eqTs_range xs ys]
   rw [List.length_cons, List.length_cons, Nat.succ_min_succ, List.range_succ_eq_map, List.all_cons, List.all_map]
   have e1 : eqJ (x :: xs) (y :: ys) 0 = eqT x y := rfl
   have e2 : (eqJ (x :: xs) (y :: ys)) ∘ Nat.succ = eqJ xs ys := by
     funext j; simp [eqJ]
   rw [e1, e2, Bool.and_assoc]
   congr 2
   simp
theorem eqTs_len : ∀ {xs ys : List T}, eqTs xs ys = true → xs.length = ys.length
 | [], [], _ => rfl
 | [], y :: ys, h => by unfold eqTs at h; cases h
 | x :: xs, [], h => by unfold eqTs at h; cases h
 | x :: xs, y :: ys, h => by
   unfold eqTs at h
   rw [Bool.and_eq_true] at h
   rw [List.length_cons, List.length_cons, eqTs_len h.2]
mutual
theorem eqT_refl : ∀ (x : T), pureT x = true → eqT x x = true
 | .non, _ => rfl
 | .bl b, _ => by simp [eqT]
 | .int i, _ => by simp [eqT]
 | .str x, _ => by simp [eqT]
 | .adr a, h => by unfold pureT at h; cases h
 | .rd a, h => by unfold pureT at h; cases h
 | .dic ks a, h => by unfold pureT at h; cases h
 | .tup ts, h => by unfold pureT at h; unfold eqT; exact eqTs_refl ts h
theorem eqTs_refl : ∀ (xs : List T), pureTs xs = true → eqTs xs xs = true
 | [], _ => by unfold eqTs; rfl
 | x :: xs, h => by
   unfold pureTs at h
   rw [Bool.and_eq_true] at h
   unfold eqTs
   rw [eqT_refl x h.1, eqTs_refl xs h.2]
   rfl
end
section
variable {X : Cx} {pins : List (Addr × Obj)} {σ : St} {H : Hp} {s : Shared}
theorem rep_det (I : Inv X pins σ H s) : ∀ (x y : T) (v : V), pureT x = true → pureT y = true → Rep X.K H v x → Rep X.K H v y → eqT x y = true := by
 have key : ∀ n (x y : T) (v : V), depT x ≤ n → pureT x = true → pureT y = true → Rep X.K H v x → Rep X.K H v y → eqT x y = true := by
   intro n
   induction n with
   | zero =>
     intro x y v hd px py rx ry
     cases x with
     | tup ts => unfold depT at hd; lia
     | adr a => unfold pureT at px; cases px
     | rd a => unfold pureT at px; cases px
     | dic ks a => unfold pureT at px; cases px
     | _ => unfold Rep at rx; subst rx; cases y <;> unfold Rep at ry <;> first | (obtain ⟨_, _, e, _⟩ := ry; cases e; done) | (unfold pureT at py; cases py; done) | (cases ry <;> simp [eqT])
   | succ n ih =>
     intro x y v hd px py rx ry
     cases x with
     | adr a => unfold pureT at px; cases px
     | rd a => unfold pureT at px; cases px
     | dic ks a => unfold pureT at px; cases px
     | tup ts =>
       unfold Rep at rx
       obtain ⟨a, xs, rfl, h1, h2⟩ := rx
       cases y with
       | adr a => unfold pureT at py; cases py
       | rd a => unfold pureT at py; cases py
       | dic ks a => unfold pureT at py; cases py
       | tup us =>
         unfold Rep at ry
         obtain ⟨a', ys, e, g1, g2⟩ := ry
         cases e
         obtain rfl := I.tuple_inj h1 g1
         unfold pureT at px py
         unfold depT at hd
         unfold eqT
         have hl := h2.length
         have hl2 := g2.length
         rw [← eqTs_range]
         rw [← hl, ← hl2]
         simp only [Nat.min_self, beq_self_eq_true, Bool.and_true, List.all_eq_true, List.mem_range]
         intro j hj
         have e1 : ts[j]? = some ts[j] := List.getElem?_eq_getElem (by lia)
         have e2 : us[j]? = some us[j] := List.getElem?_eq_getElem (by lia)
         obtain ⟨v1, q1, r1⟩ := h2.get e1
         obtain ⟨v2, q2, r2⟩ := g2.get e2
         rw [q1] at q2; cases q2
         unfold eqJ
         rw [e1, e2]
         have := depTs_get e1
         exact ih _ _ _ (by lia) (pureTs_get px e1) (pureTs_get py e2) r1 r2
       | _ => unfold Rep at ry; cases ry
     | _ => unfold Rep at rx; subst rx; cases y <;> unfold Rep at ry <;> first | (obtain ⟨_, _, e, _⟩ := ry; cases e; done) | (unfold pureT at py; cases py; done) | (cases ry <;> simp [eqT])
 exact fun x y v => key (depT x) x y v (Nat.le_refl _)
open SeqAt in
theorem eqAt_scal {A : Around} (x y : T) (v u : V) (a b : Value) (px : pureT x = true) (py : pureT y = true) (rx : Rep X.K H v x) (ry : Rep X.K H u y) (ra : RelV v a) (rb : RelV u b) (nx : ∀ ts, x ≠ .tup ts) (ny : ∀ ts, y ≠ .tup ts) :
   SeqAt.EqAt A s a b (eqT x y) ∧ SeqAt.RcAt A s a b (eqT x y) ∧ SeqAt.RcNeAt A s a b (!(eqT x y)) := by
 cases x with
 | tup ts => exact absurd rfl (nx ts)
 | adr p => unfold pureT at px; cases px
 | rd p => unfold pureT at px; cases px
 | dic ks p => unfold pureT at px; cases px
 | non =>
   unfold Rep at rx; subst rx
   cases ra
   cases y with
   | tup ts => exact absurd rfl (ny ts)
   | adr p => unfold pureT at py; cases py
   | rd p => unfold pureT at py; cases py
   | dic ks p => unfold pureT at py; cases py
   | non =>
     unfold Rep at ry; subst ry
     cases rb
     have e : eqT .non .non = true := rfl
     rw [e]
     exact ⟨EqAt.same _, RcAt.none_none, RcNeAt.none_none⟩
   | bl c0 =>
     unfold Rep at ry; subst ry
     cases rb
     have e : eqT .non (.bl c0) = false := rfl
     rw [e]
     exact ⟨EqAt.none_bool _, RcAt.none_bool _, RcNeAt.none_bool _⟩
   | int c0 =>
     unfold Rep at ry; subst ry
     obtain ⟨t_rb, rfl⟩ := rb
     have e : eqT .non (.int c0) = false := rfl
     rw [e]
     exact ⟨EqAt.none_int _ _, RcAt.none_int _ _, RcNeAt.none_int _ _⟩
   | str c0 =>
     unfold Rep at ry; subst ry
     obtain ⟨t_rb, rfl⟩ := rb
     have e : eqT .non (.str c0) = false := rfl
     rw [e]
     exact ⟨EqAt.none_str _ _, RcAt.none_str _ _, RcNeAt.none_str _ _⟩
 | bl b0 =>
   unfold Rep at rx; subst rx
   cases ra
   cases y with
   | tup ts => exact absurd rfl (ny ts)
   | adr p => unfold pureT at py; cases py
   | rd p => unfold pureT at py; cases py
   | dic ks p => unfold pureT at py; cases py
   | non =>
     unfold Rep at ry; subst ry
     cases rb
     have e : eqT (.bl b0) .non = false := rfl
     rw [e]
     exact ⟨EqAt.bool_none _, RcAt.bool_none _, RcNeAt.bool_none _⟩
   | bl c0 =>
     unfold Rep at ry; subst ry
     cases rb
     have e : eqT (.bl b0) (.bl c0) = (b0 == c0) := rfl
     rw [e]
     exact ⟨EqAt.bool_bool _ _, RcAt.bool_bool _ _, RcNeAt.bool_bool _ _⟩
   | int c0 =>
     unfold Rep at ry; subst ry
     obtain ⟨t_rb, rfl⟩ := rb
     have e : eqT (.bl b0) (.int c0) = ((if b0 then 1 else 0) == c0) := rfl
     rw [e]
     exact ⟨EqAt.bool_int _ _ _, RcAt.bool_int _ _ _, RcNeAt.bool_int _ _ _⟩
   | str c0 =>
     unfold Rep at ry; subst ry
     obtain ⟨t_rb, rfl⟩ := rb
     have e : eqT (.bl b0) (.str c0) = false := rfl
     rw [e]
     exact ⟨EqAt.bool_str _ _ _, RcAt.bool_str _ _ _, RcNeAt.bool_str _ _ _⟩
 | int b0 =>
   unfold Rep at rx; subst rx
   obtain ⟨t_ra, rfl⟩ := ra
   cases y with
   | tup ts => exact absurd rfl (ny ts)
   | adr p => unfold pureT at py; cases py
   | rd p => unfold pureT at py; cases py
   | dic ks p => unfold pureT at py; cases py
   | non =>
     unfold Rep at ry; subst ry
     cases rb
     have e : eqT (.int b0) .non = false := rfl
     rw [e]
     exact ⟨EqAt.int_none _ _, RcAt.int_none _ _, RcNeAt.int_none _ _⟩
   | bl c0 =>
     unfold Rep at ry; subst ry
     cases rb
     have e : eqT (.int b0) (.bl c0) = (b0 == (if c0 then 1 else 0)) := rfl
     rw [e]
     exact ⟨EqAt.int_bool _ _ _, RcAt.int_bool _ _ _, RcNeAt.int_bool _ _ _⟩
   | int c0 =>
     unfold Rep at ry; subst ry
     obtain ⟨t_rb, rfl⟩ := rb
     have e : eqT (.int b0) (.int c0) = (b0 == c0) := rfl
     rw [e]
     exact ⟨EqAt.int_int _ _ _ _, RcAt.int_int _ _ _ _, RcNeAt.int_int _ _ _ _⟩
   | str c0 =>
     unfold Rep at ry; subst ry
     obtain ⟨t_rb, rfl⟩ := rb
     have e : eqT (.int b0) (.str c0) = false := rfl
     rw [e]
     exact ⟨EqAt.int_str _ _ _ _, RcAt.int_str _ _ _ _, RcNeAt.int_str _ _ _ _⟩
 | str b0 =>
   unfold Rep at rx; subst rx
   obtain ⟨t_ra, rfl⟩ := ra
   cases y with
   | tup ts => exact absurd rfl (ny ts)
   | adr p => unfold pureT at py; cases py
   | rd p => unfold pureT at py; cases py
   | dic ks p => unfold pureT at py; cases py
   | non =>
     unfold Rep at ry; subst ry
     cases rb
     have e : eqT (.str b0) .non = false := rfl
     rw [e]
     exact ⟨EqAt.str_none _ _, RcAt.str_none _ _, RcNeAt.str_none _ _⟩
   | bl c0 =>
     unfold Rep at ry; subst ry
     cases rb
     have e : eqT (.str b0) (.bl c0) = false := rfl
     rw [e]
     exact ⟨EqAt.str_bool _ _ _, RcAt.str_bool _ _ _, RcNeAt.str_bool _ _ _⟩
   | int c0 =>
     unfold Rep at ry; subst ry
     obtain ⟨t_rb, rfl⟩ := rb
     have e : eqT (.str b0) (.int c0) = false := rfl
     rw [e]
     exact ⟨EqAt.str_int _ _ _ _, RcAt.str_int _ _ _ _, RcNeAt.str_int _ _ _ _⟩
   | str c0 =>
     unfold Rep at ry; subst ry
     obtain ⟨t_rb, rfl⟩ := rb
     have e : eqT (.str b0) (.str c0) = (b0 == c0) := rfl
     rw [e]
     exact ⟨EqAt.str_str _ _ _ _, RcAt.str_str _ _ _ _, RcNeAt.str_str _ _ _ _⟩
theorem depT0 {x : T} (h : ∀ ts, x ≠ .tup ts) : depT x = 0 := by
 cases x with
 | tup ts => exact absurd rfl (h ts)
 | _ => rfl
open SeqAt in
/-- a tuple against what is none -/
theorem eqAt_tup_r {A : Around} {p : Addr} {its : Array Value} (ht : s.heap.IsTuple p its) (hu : A.units < cLine) (x : T) (us : List T) (v : V) (a : Value) (px : pureT x = true) (rx : Rep X.K H v x) (ra : RelV v a) (nx : ∀ ts, x ≠ .tup ts) :
   SeqAt.EqAt A s a (.ref p) (eqT x (.tup us)) ∧ SeqAt.RcAt A s a (.ref p) (eqT x (.tup us)) ∧ SeqAt.RcNeAt A s a (.ref p) (!(eqT x (.tup us))) := by
 cases x with
 | tup ts => exact absurd rfl (nx ts)
 | adr q => unfold pureT at px; cases px
 | rd q => unfold pureT at px; cases px
 | dic ks q => unfold pureT at px; cases px
 | non =>
   unfold Rep at rx; subst rx; cases ra
   have e : eqT .non (.tup us) = false := rfl
   rw [e]; exact ⟨.none_tuple ht hu, .none_tuple ht hu, .none_tuple ht hu⟩
 | bl b0 =>
   unfold Rep at rx; subst rx; cases ra
   have e : eqT (.bl b0) (.tup us) = false := rfl
   rw [e]; exact ⟨.bool_tuple _ ht hu, .bool_tuple _ ht hu, .bool_tuple _ ht hu⟩
 | int b0 =>
   unfold Rep at rx; subst rx; obtain ⟨t, rfl⟩ := ra
   have e : eqT (.int b0) (.tup us) = false := rfl
   rw [e]; exact ⟨.int_tuple _ _ ht hu, .int_tuple _ _ ht hu, .int_tuple _ _ ht hu⟩
 | str b0 =>
   unfold Rep at rx; subst rx; obtain ⟨t, rfl⟩ := ra
   have e : eqT (.str b0) (.tup us) = false := rfl
   rw [e]; exact ⟨.str_tuple _ _ ht hu, .str_tuple _ _ ht hu, .str_tuple _ _ ht hu⟩
open SeqAt in
theorem eqAt_tup_l {A : Around} {p : Addr} {its : Array Value} (ht : s.heap.IsTuple p its) (hu : A.units < cLine) (x : T) (us : List T) (v : V) (a : Value) (px : pureT x = true) (rx : Rep X.K H v x) (ra : RelV v a) (nx : ∀ ts, x ≠ .tup ts) :
   SeqAt.EqAt A s (.ref p) a (eqT (.tup us) x) ∧ SeqAt.RcAt A s (.ref p) a (eqT (.tup us) x) ∧ SeqAt.RcNeAt A s (.ref p) a (!(eqT (.tup us) x)) := by
 cases x with
 | tup ts => exact absurd rfl (nx ts)
 | adr q => unfold pureT at px; cases px
 | rd q => unfold pureT at px; cases px
 | dic ks q => unfold pureT at px; cases px
 | non =>
   unfold Rep at rx; subst rx; cases ra
   have e : eqT (.tup us) .non = false := rfl
   rw [e]; exact ⟨.tuple_none ht hu, .tuple_none ht hu, .tuple_none ht hu⟩
 | bl b0 =>
   unfold Rep at rx; subst rx; cases ra
   have e : eqT (.tup us) (.bl b0) = false := rfl
   rw [e]; exact ⟨.tuple_bool _ ht hu, .tuple_bool _ ht hu, .tuple_bool _ ht hu⟩
 | int b0 =>
   unfold Rep at rx; subst rx; obtain ⟨t, rfl⟩ := ra
   have e : eqT (.tup us) (.int b0) = false := rfl
   rw [e]; exact ⟨.tuple_int _ _ ht hu, .tuple_int _ _ ht hu, .tuple_int _ _ ht hu⟩
 | str b0 =>
   unfold Rep at rx; subst rx; obtain ⟨t, rfl⟩ := ra
   have e : eqT (.tup us) (.str b0) = false := rfl
   rw [e]; exact ⟨.tuple_str _ _ ht hu, .tuple_str _ _ ht hu, .tuple_str _ _ ht hu⟩
theorem tup_or (x : T) : (∃ ts, x = .tup ts) ∨ ∀ ts, x ≠ .tup ts := by
 cases x with
 | tup ts => exact .inl ⟨ts, rfl⟩
 | _ => exact .inr fun ts e => by cases e
theorem items_eq {A : Around} {n : Nat} {ts us : List T} {xs ys : List V} {its its2 : List Value} (px : pureTs ts = true) (py : pureTs us = true) (hd : depTs ts ≤ n) (h2 : Reps X.K H xs ts) (g2 : Reps X.K H ys us) (r1 : Vals xs its) (r2 : Vals ys its2)
   (ih : ∀ (x y : T) (v u : V) (a b : Value), depT x ≤ n → pureT x = true → pureT y = true → Rep X.K H v x → Rep X.K H u y → RelV v a → RelV u b → SeqAt.EqAt A s a b (eqT x y)) (j : Nat) (hj1 : j < its.toArray.size) (hj2 : j < its2.toArray.size) :
   SeqAt.EqAt A s its.toArray[j] its2.toArray[j] (eqJ ts us j) := by
 have l1 := h2.length
 have l2 := g2.length
 have m1 := r1.length
 have m2 := r2.length
 have hj1' : j < its.length := by simpa using hj1
 have hj2' : j < its2.length := by simpa using hj2
 have e1 : ts[j]? = some (ts[j]'(by lia)) := List.getElem?_eq_getElem (by lia)
 have e2 : us[j]? = some (us[j]'(by lia)) := List.getElem?_eq_getElem (by lia)
 obtain ⟨v1, a1, b1⟩ := h2.get e1
 obtain ⟨v2, a2, b2⟩ := g2.get e2
 obtain ⟨w1, c1, d1⟩ := r1.get a1
 obtain ⟨w2, c2, d2⟩ := r2.get a2
 have f1 : its.toArray[j] = w1 := by
   have : its[j]? = some (its[j]'hj1') := List.getElem?_eq_getElem hj1'
   rw [c1] at this
   simpa using (Option.some.inj this).symm
 have f2 : its2.toArray[j] = w2 := by
   have : its2[j]? = some (its2[j]'hj2') := List.getElem?_eq_getElem hj2'
   rw [c2] at this
   simpa using (Option.some.inj this).symm
 have e3 : eqJ ts us j = eqT (ts[j]'(by lia)) (us[j]'(by lia)) := by unfold eqJ; rw [e1, e2]
 rw [f1, f2, e3]
 have := depTs_get e1
 exact ih _ _ v1 v2 w1 w2 (by lia) (pureTs_get px e1) (pureTs_get py e2) b1 b2 d1 d2
open SeqAt in
/-- == (by identity first), ==, != of two values, by their trees -/
theorem eqAt_T (I : Inv X pins σ H s) : ∀ n (A : Around) (x y : T) (v u : V) (a b : Value), depT x ≤ n → A.units + n + 1 < cLine → pureT x = true → pureT y = true → Rep X.K H v x → Rep X.K H u y → RelV v a → RelV u b →
   SeqAt.EqAt A s a b (eqT x y) ∧ SeqAt.RcAt A s a b (eqT x y) ∧ SeqAt.RcNeAt A s a b (!(eqT x y)) := by
 intro n
 induction n with
 | zero =>
   intro A x y v u a b hd hu px py rx ry ra rb
   rcases tup_or x with ⟨ts, rfl⟩ | nx
   · unfold depT at hd; lia
   · rcases tup_or y with ⟨us, rfl⟩ | ny
     · unfold Rep at ry
       obtain ⟨p, ys, rfl, g1, g2⟩ := ry
       obtain ⟨its, r', ht, _⟩ := I.tuple g1
       have ht' : s.heap.IsTuple p its.toArray := ht
       cases rb
       exact eqAt_tup_r ht' (by lia) x us v a px rx ra nx
     · exact eqAt_scal x y v u a b px py rx ry ra rb nx ny
 | succ n ih =>
   intro A x y v u a b hd hu px py rx ry ra rb
   have hu' : A.units < cLine := by lia
   rcases tup_or x with ⟨ts, rfl⟩ | nx
   · have rx' := rx
     unfold Rep at rx
     obtain ⟨p, xs, rfl, h1, h2⟩ := rx
     cases ra
     obtain ⟨its, r1, ht, _⟩ := I.tuple h1
     have ht' : s.heap.IsTuple p its.toArray := ht
     rcases tup_or y with ⟨us, rfl⟩ | ny
     · have ry' := ry
       unfold Rep at ry
       obtain ⟨q, ys, rfl, g1, g2⟩ := ry
       cases rb
       obtain ⟨its2, r2, ht2, _⟩ := I.tuple g1
       have ht2' : s.heap.IsTuple q its2.toArray := ht2
       have px' := px
       have py' := py
       unfold pureT at px py
       unfold depT at hd
       have he := items_eq (A := A.in1) (s := s) (n := n) px py (by lia) h2 g2 r1 r2 fun x y v u a b hx px py rx ry ra rb => (ih A.in1 x y v u a b hx (by show A.units + 1 + n + 1 < cLine; lia) px py rx ry ra rb).1
       have ee : ((List.range (min its.toArray.size its2.toArray.size)).all (eqJ ts us) && its.toArray.size == its2.toArray.size) = eqT (.tup ts) (.tup us) := by
         have l1 := h2.length
         have l2 := g2.length
         have m1 := r1.length
         have m2 := r2.length
         unfold eqT
         rw [← eqTs_range, List.size_toArray, List.size_toArray, ← m1, ← m2, l1, l2]
       have rc := RcAt.tuples (A := A) (e := eqJ ts us) ht' ht2' hu' he
       have rn := RcNeAt.tuples (A := A) (e := eqJ ts us) ht' ht2' hu' he
       rw [ee] at rc rn
       refine ⟨?_, rc, rn⟩
       by_cases hpq : p = q
       · subst hpq
         have e : eqT (.tup ts) (.tup us) = true := rep_det I (.tup ts) (.tup us) (.ref p) px' py' rx' ry'
         rw [e]; exact .same _
       · exact .of_refs hpq rc
     · exact eqAt_tup_l ht' hu' y ts u b py ry rb ny
   · exact ih A x y v u a b (by rw [depT0 nx]; exact Nat.zero_le _) (by lia) px py rx ry ra rb
end
end L2
namespace L2
open PySem PySem.Spec PyProof.Rows
noncomputable abbrev R3 := T → T → MH → VK3 → Prop
noncomputable def dR (K : PySem.W.Frag) (r : R3) : R2 := fun v u H Q2 => ∃ x y M Q, Rep K H v x ∧ Rep K H u y ∧ HR K H M ∧ r x y M Q ∧ EndE K H Q Q2
noncomputable def dU (K : PySem.W.Frag) (r : T → MH → VK3 → Prop) : V → Hp → VK → Prop := fun v H Q2 => ∃ x M Q, Rep K H v x ∧ HR K H M ∧ r x M Q ∧ EndE K H Q Q2
noncomputable def dL (K : PySem.W.Frag) (r : List T → MH → VK3 → Prop) : List V → Hp → VK → Prop := fun vs H Q2 => ∃ xs M Q, Reps K H vs xs ∧ HR K H M ∧ r xs M Q ∧ EndE K H Q Q2
theorem Kp.new {K : PySem.W.Frag} {H : Hp} {p : Addr} {o : HO} (h : H p = none) : Kp K H (upd H p o) := by
 refine ⟨fun a xs q => ?_, fun a ob u q => by rw [upd_ne (ne_of_none q h)]; exact q⟩
 rcases q with (q | ⟨ob, q⟩) | q
 · exact .inl (.inl (by rw [upd_ne (ne_of_none q h)]; exact q))
 · exact .inl (.inr ⟨ob, by rw [upd_ne (ne_of_none q h)]; exact q⟩)
 · exact .inr q
theorem Kp.lst {K : PySem.W.Frag} {H : Hp} {p : Addr} {xs ys : List V} (h : H p = some (.lst xs)) : Kp K H (upd H p (.lst ys)) := by
 have ne : ∀ {a : Addr} {o : HO}, H a = some o → o ≠ .lst xs → a ≠ p := fun {a o} q hn e => by
   subst e
   rw [h] at q; cases q; exact hn rfl
 refine ⟨fun a zs q => ?_, fun a ob u q => by rw [upd_ne (ne q (by intro z; cases z))]; exact q⟩
 rcases q with (q | ⟨ob, q⟩) | q
 · exact .inl (.inl (by rw [upd_ne (ne q (by intro z; cases z))]; exact q))
 · exact .inl (.inr ⟨ob, by rw [upd_ne (ne q (by intro z; cases z))]; exact q⟩)
 · exact .inr q
section
variable {K : PySem.W.Frag} {H : Hp} {M : MH}
noncomputable def Wr : HO → Prop
 | .lst _ => True
 | .dK _ => True
 | .dT _ => True
 | _ => False
theorem MOk.kp {H' : Hp} {a : Addr} {o : MO} (h : MOk K H a o) (k : Kp K H H') (ha : ∀ u, Wr u → H a = some u → H' a = some u) : MOk K H' a o := by
 cases o with
 | lst ts => obtain ⟨xs, e, r⟩ := h; exact ⟨xs, ha _ trivial e, Reps.kp k _ _ r⟩
 | dk kvs => obtain ⟨xs, e, r⟩ := h; exact ⟨xs, ha _ trivial e, r.kp k⟩
 | dt kvs => obtain ⟨xs, e, r⟩ := h; exact ⟨xs, ha _ trivial e, r.kp k⟩
theorem MOk.some {a : Addr} {o : MO} (h : MOk K H a o) : ∃ u, H a = Option.some u ∧ Wr u := by
 cases o with
 | lst ts => obtain ⟨xs, e, r⟩ := h; exact ⟨_, e, trivial⟩
 | dk kvs => obtain ⟨xs, e, r⟩ := h; exact ⟨_, e, trivial⟩
 | dt kvs => obtain ⟨xs, e, r⟩ := h; exact ⟨_, e, trivial⟩
theorem HR.free {p : Addr} (h : HR K H M) (hp : H p = none) : M p = none := by
 cases q : M p with
 | none => rfl
 | some o =>
   obtain ⟨u, e, _⟩ := (h p o q).some
   rw [hp] at e; cases e
theorem HR.keep {p : Addr} {o : HO} (h : HR K H M) (hp : H p = none) : HR K (upd H p o) M := fun a u e =>
 (h a u e).kp (Kp.new hp) fun u _ q => by rw [upd_ne (ne_of_none q hp)]; exact q
theorem HR.newL {p : Addr} {xs : List V} {ts : List T} (h : HR K H M) (hp : H p = none) (r : Reps K H xs ts) : HR K (upd H p (.lst xs)) (updM M p (.lst ts)) := fun a u e => by
 by_cases ha : a = p
 · subst ha
   rw [updM_same] at e; cases e
   exact ⟨xs, upd_same, Reps.kp (Kp.new hp) _ _ r⟩
 · rw [updM_ne ha] at e
   exact (h.keep hp) a u e
theorem HR.setL {p : Addr} {xs ys : List V} {us : List T} (h : HR K H M) (hp : H p = some (.lst xs)) (r : Reps K H ys us) : HR K (upd H p (.lst ys)) (updM M p (.lst us)) := fun a u e => by
 by_cases ha : a = p
 · subst ha
   rw [updM_same] at e; cases e
   exact ⟨ys, upd_same, Reps.kp (Kp.lst hp) _ _ r⟩
 · rw [updM_ne ha] at e
   exact (h a u e).kp (Kp.lst hp) fun u _ q => by rw [upd_ne ha]; exact q
end
noncomputable def OpR3 (X : Cx) (f : Value → Value → Sem Value) (r : R3) : Prop := OpR X f (dR X.K r)
noncomputable def UnR3 (X : Cx) (f : Value → Sem Value) (r : T → MH → VK3 → Prop) : Prop := UnR X f (dU X.K r)
noncomputable def CallR3 (X : Cx) (f : Value) (r : List T → MH → VK3 → Prop) : Prop := CallR X f (dL X.K r)
noncomputable def IxR3 (X : Cx) (r : R3) : Prop := IxR X (dR X.K r)
noncomputable def tOp3 (r : R3) (ta tb : TE3) : TE3 := fun ρ M Q => ta ρ M fun x M1 => tb ρ M1 fun y M2 => r x y M2 Q
noncomputable def tUn3 (r : T → MH → VK3 → Prop) (ta : TE3) : TE3 := fun ρ M Q => ta ρ M fun x M1 => r x M1 Q
noncomputable def tVar3 (i : Nat) : TE3 := fun ρ M Q => match ρ[i]? with
 | some (some t) => Q t M
 | _ => False
noncomputable def tK (t : T) : TE3 := fun _ M Q => Q t M
section
variable {X : Cx} {a b c e : Expr} {es : List Expr} {ta tb tc te : TE3} {pos : Pos}
theorem dOp {ρ : En} {M : MH} {Q : VK3} {r : R3} (h : tOp3 r ta tb ρ M Q) {σ : St} {H : Hp} {Q2 : VK} (b : bE X.K ρ M Q σ H Q2) : tOp (dR X.K r) (dE X.K ρ ta) (dE X.K ρ tb) σ H Q2 := by
 obtain ⟨hr, hh, en⟩ := b
 refine ⟨M, _, h, hr, hh, fun t v M1 H1 k1 h1 r1 q1 => ⟨M1, _, q1, hr.kp k1, h1, fun t2 v2 M2 H2 k2 h2 r2 q2 => ⟨t, t2, M2, Q, Rep.kp k2 _ _ r1, r2, h2, q2, en.kp (k1.trans k2)⟩⟩⟩
theorem h_bin {op : Operator} {r : R3} (ho : OpR3 X (binaryOp op) r) (ha : HE X a ta) (hb : HE X b tb) : HE X (.BinOp a op b pos) (tOp3 r ta tb) := fun ρ M Q h =>
 (pe_op ho (ha.d (ρ := ρ)) (hb.d (ρ := ρ))).imp fun σ H Q2 b => dOp h b
theorem h_un {op : UnaryOp} {r : T → MH → VK3 → Prop} (ho : UnR3 X (unaryOp op) r) (ha : HE X a ta) : HE X (.UnaryOp op a pos) (tUn3 r ta) := fun ρ M Q h =>
 (pe_un ho (ha.d (ρ := ρ))).imp fun σ H Q2 ⟨hr, hh, en⟩ => ⟨M, _, h, hr, hh, fun t v M1 H1 k1 h1 r1 q1 => ⟨t, M1, Q, r1, h1, q1, en.kp k1⟩⟩
theorem h_var {i : Nat} {x : Str} (hN : X.N[i]? = some x) (hv : Vis X.env.scope x) (hd : (x == ("__debug__" : Str)) = false := by decide) (hcd : (x == ("__classdict__" : Str)) = false := by decide) : HE X (.Name x pos) (tVar3 i) := fun ρ M Q h =>
 (pe_var hN hv hd hcd).imp fun σ H Q2 ⟨hr, hh, en⟩ => by
   unfold tVar3 at h
   split at h
   · rename_i t e
     obtain ⟨v, e1, r⟩ := hr.2 i t e
     exact ⟨v, e1, en t v M H Kp.refl hh r h⟩
   · exact h.elim
theorem hv (i : Nat) {x : Str} {pos : Pos} (hN : X.N[i]? = some x := by rfl) (hv : Vis X.env.scope x := by first | exact Or.inl rfl | exact Or.inr (Or.inl rfl) | exact Or.inr (Or.inr rfl)) (hd : (x == ("__debug__" : Str)) = false := by decide)
   (hcd : (x == ("__classdict__" : Str)) = false := by decide) : HE X (.Name x pos) (tVar3 i) := h_var hN hv hd hcd
theorem rep_int {K : PySem.W.Frag} {H : Hp} {i : Int} : Rep K H (.int i) (.int i) := by unfold Rep; rfl
theorem rep_bl {K : PySem.W.Frag} {H : Hp} {i : Bool} : Rep K H (.bl i) (.bl i) := by unfold Rep; rfl
theorem rep_str {K : PySem.W.Frag} {H : Hp} {i : Str} : Rep K H (.str i) (.str i) := by unfold Rep; rfl
theorem rep_non {K : PySem.W.Frag} {H : Hp} : Rep K H .non .non := by unfold Rep; rfl
theorem rep_adr {K : PySem.W.Frag} {H : Hp} {a : Addr} : Rep K H (.ref a) (.adr a) := by unfold Rep; rfl
theorem rep_tup {K : PySem.W.Frag} {H : Hp} {a : Addr} {xs : List V} {ts : List T} (h : SqT K H a xs) (r : Reps K H xs ts) : Rep K H (.ref a) (.tup ts) := by unfold Rep; exact ⟨a, xs, rfl, h, r⟩
theorem h_const {v : V} {t : T} (h : PE X e (tC v)) (r : ∀ K H, Rep K H v t) : HE X e (tK t) := fun ρ M Q q => h.imp fun σ H Q2 ⟨hr, hh, en⟩ => en t v M H Kp.refl hh (r _ _) q
theorem h_int {i j pos} : HE X (.Constant (.int i) j pos) (tK (.int i)) := h_const pe_int fun _ _ => rep_int
theorem h_bl {b j pos} : HE X (.Constant (.bool b) j pos) (tK (.bl b)) := h_const pe_bl fun _ _ => rep_bl
theorem h_str {x j pos} : HE X (.Constant (.str x) j pos) (tK (.str x)) := h_const pe_str fun _ _ => rep_str
theorem h_globI {x : Str} {i : Int} {tk : Tok} {pos : Pos} (hm : X.mg x = some (.int i tk)) (hg : Gl X x := by rfl) (hd : (x == ("__debug__" : Str)) = false := by decide) : HE X (.Name x pos) (tK (.int i)) := h_const (v := .int i) (pe_glob hg hm ⟨tk, rfl⟩ hd) fun _ _ => rep_int
theorem inv_int {K : PySem.W.Frag} {H : Hp} {v : V} {i : Int} (r : Rep K H v (.int i)) : v = .int i := by unfold Rep at r; exact r
theorem inv_str {K : PySem.W.Frag} {H : Hp} {v : V} {i : Str} (r : Rep K H v (.str i)) : v = .str i := by unfold Rep at r; exact r
theorem inv_bl {K : PySem.W.Frag} {H : Hp} {v : V} {i : Bool} (r : Rep K H v (.bl i)) : v = .bl i := by unfold Rep at r; exact r
theorem inv_non {K : PySem.W.Frag} {H : Hp} {v : V} (r : Rep K H v .non) : v = .non := by unfold Rep at r; exact r
theorem inv_adr {K : PySem.W.Frag} {H : Hp} {v : V} {a : Addr} (r : Rep K H v (.adr a)) : v = .ref a := by unfold Rep at r; exact r
theorem inv_tup {K : PySem.W.Frag} {H : Hp} {v : V} {ts : List T} (r : Rep K H v (.tup ts)) : ∃ a xs, v = .ref a ∧ SqT K H a xs ∧ Reps K H xs ts := by unfold Rep at r; exact r
noncomputable def rInt (C : Int → Int → Prop) (g : Int → Int → Int) : R3 := fun x y M Q => match x, y with
 | .int i, .int j => C i j ∧ Q (.int (g i j)) M
 | _, _ => False
theorem op3_int {f : Value → Value → Sem Value} {C : Int → Int → Prop} {g : Int → Int → Int} (h : OpR X f (rI C fun i j => .int (g i j))) : OpR3 X f (rInt C g) := by
 intro pins s σ H x y v u Q2 I rx ry q
 obtain ⟨a, b, M, Q, r1, r2, hh, q, en⟩ := q
 unfold rInt at q
 split at q
 · obtain rfl := inv_int r1
   obtain rfl := inv_int r2
   exact h pins s σ H _ _ v u Q2 I rx ry ⟨_, _, rfl, rfl, q.1, en _ _ M H Kp.refl hh rep_int q.2⟩
 · exact q.elim
noncomputable def rSub3 : R3 := fun x y M Q => match x, y with
 | .int i, .int j => Q (.int (i - j)) M
 | _, _ => False
theorem op3_sub : OpR3 X (binaryOp .Sub) rSub3 := by
 intro pins s σ H x y v u Q2 I rx ry q
 obtain ⟨a, b, M, Q, r1, r2, hh, q, en⟩ := q
 unfold rSub3 at q
 split at q
 · obtain rfl := inv_int r1
   obtain rfl := inv_int r2
   exact op_sub pins s σ H _ _ v u Q2 I rx ry ⟨_, _, rfl, rfl, en _ _ M H Kp.refl hh rep_int q⟩
 · exact q.elim
noncomputable def CDivB (i j : Int) : Prop := 0 < j ∧ j.natAbs.log2 < 9000
theorem op_fdivB : OpR X (binaryOp .FloorDiv) (rI CDivB fun i j => .int (i / j)) := opI fun i j _ _ _ _ _ hc q => by
 have e : i.fdiv j = i / j := Int.fdiv_eq_ediv_of_nonneg i (Int.le_of_lt hc.1)
 exact floordiv_int (Int.ne_of_gt hc.1) (by rw [e]; exact q) (.inl (PyProof.noPylong_of_log2 hc.2))
noncomputable def rDiv3 : R3 := rInt CDivB fun i j => i / j
noncomputable def rMod3 : R3 := rInt (fun _ j => 0 < j) fun i j => i % j
noncomputable def rPow3 : R3 := rInt CPow fun i j => i ^ j.toNat
theorem op3_div : OpR3 X (binaryOp .FloorDiv) rDiv3 := op3_int op_fdivB
theorem op3_mod : OpR3 X (binaryOp .Mod) rMod3 := op3_int op_mod
theorem op3_pow : OpR3 X (binaryOp .Pow) rPow3 := op3_int op_pow
noncomputable def rNeg3 : T → MH → VK3 → Prop := fun x M Q => match x with
 | .int i => Q (.int (-i)) M
 | _ => False
theorem un3_neg : UnR3 X (unaryOp .USub) rNeg3 := by
 intro pins s σ H x v Q2 I rx q
 obtain ⟨a, M, Q, r1, hh, q, en⟩ := q
 unfold rNeg3 at q
 split at q
 · obtain rfl := inv_int r1
   exact un_neg pins s σ H _ v Q2 I rx ⟨_, rfl, en _ _ M H Kp.refl hh rep_int q⟩
 · exact q.elim
theorem op_catT0 : OpR X (binaryOp .Add) (fun x y H Q => ∃ a b ys, x = .ref a ∧ y = .ref b ∧ SqT X.K H a [] ∧ SqT X.K H b ys ∧ Q (.ref b) H) := by
 intro pins s σ H x y v u Q I rx ry h
 obtain ⟨a, b, ys, rfl, rfl, hx, hy, q⟩ := h
 cases rx
 cases ry
 obtain ⟨its, r, ht, hz⟩ := I.tuple hx
 obtain ⟨its2, r2, ht2, hz2⟩ := I.tuple hy
 have e : its = [] := r.nil_iff.mpr rfl
 subst e
 obtain ⟨⟨cls, dd, data, sl⟩, ho, hc, n, hd⟩ := id ht
 obtain ⟨⟨cls2, dd2, data2, sl2⟩, ho2, hc2, n2, hd2⟩ := id ht2
 simp only at hc hd hc2 hd2
 subst hc hd hc2 hd2
 exact concat_meets ⟨_, ho, rfl⟩ ⟨_, ho2, rfl⟩ noFill_tuple_add seq_tuple_add PySem.F.slot_tuple_add PySem.F.entry_tuple_add (PySem.F.args_tuple_add_2 _ _)
     (tuple_addW0 a b _ its2.toArray n n2 dd dd2 sl sl2 (by simp)) ⟨ho, ho2, ⟨.ref b, H, I, rfl, q⟩⟩
noncomputable def rAdd3 : R3 := fun x y M Q => match x, y with
 | .int i, .int j => Q (.int (i + j)) M
 | .str a, .str b => a.length + b.length ≤ sizeLine ∧ Q (.str (a ++ b)) M
 | .tup a, .tup b => a.length + b.length ≤ sizeLine ∧ Q (.tup (a ++ b)) M
 | .adr p, .adr q => match M p, M q with
   | some (.lst a), some (.lst b) => a.length + b.length ≤ sizeLine ∧ ∀ r, M r = none → Q (.adr r) (updM M r (.lst (a ++ b)))
   | _, _ => False
 | _, _ => False
theorem op3_add : OpR3 X (binaryOp .Add) rAdd3 := by
 intro pins s σ H x y v u Q2 I rx ry q
 obtain ⟨a, b, M, Q, r1, r2, hh, q, en⟩ := q
 unfold rAdd3 at q
 split at q
 · obtain rfl := inv_int r1
   obtain rfl := inv_int r2
   exact op_add pins s σ H _ _ v u Q2 I rx ry ⟨_, _, rfl, rfl, en _ _ M H Kp.refl hh rep_int q⟩
 · obtain rfl := inv_str r1
   obtain rfl := inv_str r2
   exact op_add_str pins s σ H _ _ v u Q2 I rx ry ⟨_, _, rfl, rfl, q.1, en _ _ M H Kp.refl hh rep_str q.2⟩
 · rename_i ts us
   obtain ⟨p, xs, rfl, h1, h2⟩ := inv_tup r1
   obtain ⟨p', ys, rfl, g1, g2⟩ := inv_tup r2
   have l1 := h2.length
   have l2 := g2.length
   by_cases hx : xs = []
   · subst hx
     have ht : ts = [] := List.eq_nil_of_length_eq_zero (by rw [← l1]; rfl)
     subst ht
     exact op_catT0 pins s σ H _ _ v u Q2 I rx ry ⟨_, _, ys, rfl, rfl, h1, g1, en _ _ M H Kp.refl hh (rep_tup g1 g2) q.2⟩
   · refine op_catT pins s σ H _ _ v u Q2 I rx ry ⟨_, _, xs, ys, rfl, rfl, h1, g1, hx, by rw [l1, l2]; exact q.1, fun hy => ?_, fun hy r hr => ?_⟩
     · subst hy
       have ht : us = [] := List.eq_nil_of_length_eq_zero (by rw [← l2]; rfl)
       subst ht
       have q2 := q.2
       rw [List.append_nil] at q2
       exact en _ _ M H Kp.refl hh (rep_tup h1 h2) q2
     · refine en _ _ M _ (Kp.new hr) (hh.keep hr) (rep_tup (SqT.of upd_same) ?_) q.2
       exact Reps.kp (Kp.new hr) _ _ (h2.append g2)
 · rename_i p p'
   obtain rfl := inv_adr r1
   obtain rfl := inv_adr r2
   split at q
   · rename_i ts us e1 e2
     obtain ⟨xs, h1, h2⟩ := hh _ _ e1
     obtain ⟨ys, g1, g2⟩ := hh _ _ e2
     refine op_cat pins s σ H _ _ v u Q2 I rx ry ⟨_, _, xs, ys, rfl, rfl, h1, g1, by rw [h2.length, g2.length]; exact q.1, fun r hr => ?_⟩
     exact en _ _ _ _ (Kp.new hr) (hh.newL hr (h2.append g2)) rep_adr (q.2 r (hh.free hr))
   · exact q.elim
 · exact q.elim
end
end L2
namespace L2
open PySem PySem.Spec PyProof.Rows
theorem noFill_tuple_mul : fillsNumberSlot (.type "tuple") "mul" = pure false :=
 PySem.fillsNumberSlot_seq (id := "tuple.__mul__") (r := some (.builtin "tuple.__rmul__")) F.slot_tuple_mul.lookup (by decide +kernel) F.slot_tuple_rmul.lookup (by decide +kernel)
theorem repeat_tuple : seqRepeat? (.type "tuple") = pure (some (.builtin "tuple.__mul__")) := by
 unfold seqRepeat?
 rw [PySem.seqSlot_of (T := "tuple") (name := "__mul__") (id := "tuple.__mul__") F.slot_tuple_mul.lookup (by decide +kernel), PySem.seqSlot_of (T := "tuple") (name := "__rmul__") (id := "tuple.__rmul__") F.slot_tuple_rmul.lookup (by decide +kernel)]
 rfl
section
variable (l : Addr) (items : Array Value) (n : Nat) (x : Int) (u : Tok) (dd : Option Addr) (sl : Array (Option Value))
theorem int_rmul_tuple : Meets (Builtin.«int.__rmul__» ⟨[.int x u, .ref l], []⟩) (fun _ R s => s.heap.get? l = some { cls := .type "tuple", dict := dd, data := .seq items n, slots := sl } ∧ R (.ok (.ret Value.notImplemented)) s) :=
 .of_wp fun prog w A R s h => by obtain ⟨hp, g, d, tk, os⟩ := s; obtain ⟨hl, h⟩ := h; wp_walk; exact ⟨_, rfl, h⟩
theorem tuple_mul_0 (h0 : -(2 ^ 63) ≤ x) (h1 : x < 2 ^ 63) (hc : (items.isEmpty || x == 1) = true) :
   Meets (Builtin.«tuple.__mul__» ⟨[.ref l, .int x u], []⟩) (fun _ R s => s.heap.get? l = some { cls := .type "tuple", dict := dd, data := .seq items n, slots := sl } ∧ R (.ok (.ret (Value.ref l))) s) :=
 .of_wp fun prog w A R s h => by
   obtain ⟨hp, g, d, tk, os⟩ := s; obtain ⟨hl, h⟩ := h
   have hb : ¬ (decide (x < -2 ^ 63) || decide (x ≥ 2 ^ 63)) = true := by simp; lia
   wp_walk
   rw [if_neg hb]
   wp_walk
   first | exact ⟨_, rfl, h⟩ | (rw [if_pos hc]; wp_walk; exact ⟨_, rfl, h⟩)
theorem tuple_mul_1 (h0 : -(2 ^ 63) ≤ x) (h1 : x < 2 ^ 63) (hc : ¬ (items.isEmpty || x == 1) = true) (hn : (decide (x ≤ 0) || items.isEmpty) = true) :
   Meets (Builtin.«tuple.__mul__» ⟨[.ref l, .int x u], []⟩) (fun _ R s => s.heap.get? l = some { cls := .type "tuple", dict := dd, data := .seq items n, slots := sl } ∧ R (.ok (.ret (Value.ref s.heap.objs.size))) { s with heap := s.heap.push { cls := .type "tuple", data := .seq #[] }, toks := s.toks }) :=
 .of_wp fun prog w A R s h => by
   obtain ⟨hp, g, d, tk, os⟩ := s; obtain ⟨hl, h⟩ := h
   have hb : ¬ (decide (x < -2 ^ 63) || decide (x ≥ 2 ^ 63)) = true := by simp; lia
   wp_walk
   rw [if_neg hb]
   wp_walk
   first | exact ⟨_, rfl, h⟩ | (rw [if_neg hc, if_pos hn]; wp_walk; exact ⟨_, rfl, h⟩)
theorem tuple_mul_2 (h0 : -(2 ^ 63) ≤ x) (h1 : x < 2 ^ 63) (hc : ¬ (items.isEmpty || x == 1) = true) (hn : ¬ (decide (x ≤ 0) || items.isEmpty) = true) (hm : ¬ items.size * x > (2 ^ 63 - 1) / 8) (hz : ¬ Builtin.Tuple.tupleTooMany (items.size * x) = true) (hf : sizeOk (.seq (List.foldl (fun x1 x2 => x1 ++ x2) #[] (List.replicate x.toNat items)))) :
   Meets (Builtin.«tuple.__mul__» ⟨[.ref l, .int x u], []⟩) (fun _ R s => s.heap.get? l = some { cls := .type "tuple", dict := dd, data := .seq items n, slots := sl } ∧ R (.ok (.ret (Value.ref s.heap.objs.size))) { s with heap := s.heap.push { cls := .type "tuple", data := .seq (List.foldl (fun x1 x2 => x1 ++ x2) #[] (List.replicate x.toNat items)) }, toks := s.toks }) :=
 .of_wp fun prog w A R s h => by
   obtain ⟨hp, g, d, tk, os⟩ := s; obtain ⟨hl, h⟩ := h
   have hb : ¬ (decide (x < -2 ^ 63) || decide (x ≥ 2 ^ 63)) = true := by simp; lia
   wp_walk
   rw [if_neg hb]
   wp_walk
   rw [if_neg hm]
   wp_walk
   first | exact ⟨_, rfl, h⟩ | (rw [if_neg (Nat.not_lt.mpr hf)]; wp_walk; exact ⟨_, rfl, h⟩)
end
section
variable {X : Cx}
noncomputable def rRepT (K : PySem.W.Frag) : R2 := fun x y H Q => ∃ a k xs, x = .ref a ∧ y = .int k ∧ SqT K H a xs ∧ -(2 ^ 63) ≤ k ∧ k < 2 ^ 63 ∧ xs.length * k.toNat ≤ sizeLine ∧
 ∀ p H', SqT K H' p (List.replicate k.toNat xs).flatten → (H' = H ∨ H p = none ∧ H' = upd H p (.tup (List.replicate k.toNat xs).flatten)) → Q (.ref p) H'
theorem foldl_repA (its : List Value) (m : Nat) : List.foldl (fun x1 x2 => x1 ++ x2) #[] (List.replicate m its.toArray) = (List.replicate m its).flatten.toArray := by
 have := foldl_rep its m []
 rw [List.nil_append] at this
 exact this
theorem op_repT : OpR X (binaryOp .Mult) (rRepT X.K) := by
 intro pins s σ H x y v u Q I rx ry h
 obtain ⟨a, k, xs, rfl, rfl, hx, h1, h2, hz, q⟩ := h
 cases rx
 obtain ⟨t, rfl⟩ := ry
 obtain ⟨its, r, p, hl⟩ := I.tuple hx
 have hlen := r.length
 obtain ⟨⟨cls, dd, data, sl⟩, ho, hc, n, hd⟩ := id p
 simp only at hc hd
 subst hc hd
 refine wpAny_binaryOp_repeat_ref (T := "tuple") (U := "int") (by decide) ⟨_, ho, rfl⟩ (fun s' => typeIs_int s' k t) noFill_tuple_mul F.fills_int_mul F.slot_int_rmul repeat_tuple F.slot_int_index.lookup
   (call_meets F.slot_int_rmul (typeIs_int s k t) F.entry_int_rmul (F.args_int_rmul_2 _ _) (int_rmul_tuple a its.toArray n k t dd sl) ⟨ho, rfl, ⟨_, ho, rfl⟩, ?_⟩)
 by_cases hc : (its.toArray.isEmpty || k == 1) = true
 · refine call_meets F.slot_tuple_mul ⟨_, ho, rfl⟩ F.entry_tuple_mul (F.args_tuple_mul_2 _ _) (tuple_mul_0 a its.toArray n k t dd sl h1 h2 hc) ⟨ho, ?_⟩
   have e : (List.replicate k.toNat xs).flatten = xs := by
     simp only [Bool.or_eq_true, beq_iff_eq] at hc
     rcases hc with hc | hc
     · have : its = [] := by simpa using hc
       subst this
       cases r
       simp
     · subst hc
       simp
   exact ⟨.ref a, H, I, rfl, q a H (by rw [e]; exact hx) (.inl rfl)⟩
 · by_cases hn : (decide (k ≤ 0) || its.toArray.isEmpty) = true
   · refine call_meets F.slot_tuple_mul ⟨_, ho, rfl⟩ F.entry_tuple_mul (F.args_tuple_mul_2 _ _) (tuple_mul_1 a its.toArray n k t dd sl h1 h2 hc hn) ⟨ho, ?_⟩
     have hk : k.toNat = 0 := by
       simp only [Bool.or_eq_true, decide_eq_true_eq] at hn hc
       rcases hn with hn | hn
       · lia
       · exact absurd (.inl hn) hc
     have e : (List.replicate k.toNat xs).flatten = [] := by rw [hk]; rfl
     refine ⟨.ref s.heap.objs.size, _, I.laid (t' := s.toks) (o := .tup []) (fun b ob q => Heap.get?_push_of_some _ q) (Nat.le_refl _) ?_, rfl, q _ _ ?_ (.inr ⟨I.hok.fresh (Nat.le_refl _), by rw [e]⟩)⟩
     · exact ⟨Nat.zero_le _, [], .nil, IsTup0.new _ _⟩
     · rw [e]; exact SqT.of upd_same
   · have hm : (its.toArray.size : Int) * k ≤ sizeLine := by
       have : its.toArray.size = xs.length := by rw [hlen]; simp
       rw [this]
       have hk : (0 : Int) ≤ k := by
         simp only [Bool.or_eq_true, decide_eq_true_eq] at hn
         lia
       have e2 : k = ((k.toNat : Nat) : Int) := by lia
       rw [e2, ← Int.natCast_mul]
       exact_mod_cast hz
     have hz2 : ((List.replicate k.toNat its).flatten).length ≤ sizeLine := by rw [len_rep, Nat.mul_comm, ← hlen]; exact hz
     refine call_meets F.slot_tuple_mul ⟨_, ho, rfl⟩ F.entry_tuple_mul (F.args_tuple_mul_2 _ _) (tuple_mul_2 a its.toArray n k t dd sl h1 h2 hc hn ?_ ?_ ?_) ⟨ho, ?_⟩
     · have : (sizeLine : Int) ≤ (2 ^ 63 - 1) / 8 := by decide
       lia
     · unfold Builtin.Tuple.tupleTooMany
       simp only [decide_eq_true_eq]
       lia
     · rw [foldl_repA]
       show (List.replicate k.toNat its).flatten.toArray.size ≤ sizeLine
       rw [List.size_toArray]
       exact hz2
     · rw [foldl_repA]
       refine ⟨.ref s.heap.objs.size, _, I.laid (t' := s.toks) (o := .tup (List.replicate k.toNat xs).flatten) (fun b ob q => Heap.get?_push_of_some _ q) (Nat.le_refl _) ?_, rfl, q _ _ (SqT.of upd_same) (.inr ⟨I.hok.fresh (Nat.le_refl _), rfl⟩)⟩
       exact ⟨by rw [len_rep, Nat.mul_comm]; exact hz, _, r.rep k.toNat, IsTup0.new _ _⟩
end
end L2
namespace L2
open PySem PySem.Spec PyProof.Rows
theorem Reps.atI {K : PySem.W.Frag} {H : Hp} {vs : List V} {ts : List T} {i : Int} {t : T} (h : Reps K H vs ts) (e : atI ts i = some t) : ∃ v, L2.atI vs i = some v ∧ Rep K H v t := by
 unfold L2.atI at e ⊢
 rw [h.length]
 cases q : ixN ts.length i with
 | none => rw [q] at e; cases e
 | some j => rw [q] at e; exact h.get e
section
variable {X : Cx} {a b c e : Expr} {es : List Expr} {ta tb tc te : TE3} {pos : Pos}
noncomputable def rIx3 : R3 := fun x y M Q => match x, y with
 | .tup ts, .int i => (match atI ts i with | some t => Q t M | none => False)
 | .rd ts, .int i => (match atI ts i with | some t => Q t M | none => False)
 | .adr p, .int i => (match M p with | some (.lst ts) => (match atI ts i with | some t => Q t M | none => False) | _ => False)
 | .str z, .int i => z.length ≤ sizeLine ∧ (match atI z.cps.toList i with | some c => Q (.str ⟨#[c]⟩) M | none => False)
 | _, _ => False
theorem inv_rd {K : PySem.W.Frag} {H : Hp} {v : V} {ts : List T} (r : Rep K H v (.rd ts)) : ∃ a xs, v = .ref a ∧ FzL K H a xs ∧ Reps K H xs ts := by unfold Rep at r; exact r
theorem ix3 : IxR3 X rIx3 := by
 intro value slice pins s σ H x y v u Q2 I rx ry q hs
 obtain ⟨a, b, M, Q, r1, r2, hh, q, en⟩ := q
 unfold rIx3 at q
 split at q
 · obtain rfl := inv_int r2
   obtain ⟨p, xs, rfl, h1, h2⟩ := inv_tup r1
   split at q
   · rename_i t e
     obtain ⟨w, ew, rw'⟩ := h2.atI e
     exact ix_tup value slice pins s σ H _ _ v u Q2 I rx ry ⟨_, _, _, w, rfl, rfl, h1, ew, en _ _ M H Kp.refl hh rw' q⟩ hs
   · exact q.elim
 · obtain rfl := inv_int r2
   obtain ⟨p, xs, rfl, h1, h2⟩ := inv_rd r1
   split at q
   · rename_i t e
     obtain ⟨w, ew, rw'⟩ := h2.atI e
     exact ix_list value slice pins s σ H _ _ v u Q2 I rx ry ⟨_, _, _, w, rfl, rfl, h1.sq, ew, en _ _ M H Kp.refl hh rw' q⟩ hs
   · exact q.elim
 · obtain rfl := inv_int r2
   obtain rfl := inv_adr r1
   split at q
   · rename_i ts e0
     obtain ⟨xs, h1, h2⟩ := hh _ _ e0
     split at q
     · rename_i t e
       obtain ⟨w, ew, rw'⟩ := h2.atI e
       exact ix_list value slice pins s σ H _ _ v u Q2 I rx ry ⟨_, _, _, w, rfl, rfl, SqL.of h1, ew, en _ _ M H Kp.refl hh rw' q⟩ hs
     · exact q.elim
   · exact q.elim
 · obtain rfl := inv_int r2
   obtain rfl := inv_str r1
   obtain ⟨hz, q⟩ := q
   split at q
   · rename_i c e
     exact ix_str value slice pins s σ H _ _ v u Q2 I rx ry ⟨_, _, c, rfl, rfl, hz, e, en _ _ M H Kp.refl hh rep_str q⟩ hs
   · exact q.elim
 · exact q.elim
theorem h_ix (ha : HE X a ta) (hb : HE X b tb) (hs : PlainIx b := by intro _ _; rfl) : HE X (.Subscript a b pos) (tOp3 rIx3 ta tb) := fun ρ M Q h =>
 (pe_ix ix3 (ha.d (ρ := ρ)) (hb.d (ρ := ρ)) hs).imp fun σ H Q2 b => dOp h b
noncomputable def rMul3 : R3 := fun x y M Q => match x, y with
 | .int i, .int j => CMul i j ∧ Q (.int (i * j)) M
 | .adr p, .int k => (match M p with
   | some (.lst ts) => -(2 ^ 63) ≤ k ∧ k < 2 ^ 63 ∧ ts.length * k.toNat ≤ sizeLine ∧ ∀ r, M r = none → Q (.adr r) (updM M r (.lst (List.replicate k.toNat ts).flatten))
   | _ => False)
 | .tup ts, .int k => -(2 ^ 63) ≤ k ∧ k < 2 ^ 63 ∧ ts.length * k.toNat ≤ sizeLine ∧ Q (.tup (List.replicate k.toNat ts).flatten) M
 | _, _ => False
theorem Reps.rep {K : PySem.W.Frag} {H : Hp} {vs : List V} {ts : List T} (h : Reps K H vs ts) : ∀ k : Nat, Reps K H (List.replicate k vs).flatten (List.replicate k ts).flatten
 | 0 => .nil
 | k + 1 => by
   rw [List.replicate_succ, List.replicate_succ, List.flatten_cons, List.flatten_cons]
   exact Reps.append h (Reps.rep h k)
theorem op3_mul : OpR3 X (binaryOp .Mult) rMul3 := by
 intro pins s σ H x y v u Q2 I rx ry q
 obtain ⟨a, b, M, Q, r1, r2, hh, q, en⟩ := q
 unfold rMul3 at q
 split at q
 · obtain rfl := inv_int r1
   obtain rfl := inv_int r2
   exact op_mul pins s σ H _ _ v u Q2 I rx ry ⟨_, _, rfl, rfl, q.1, en _ _ M H Kp.refl hh rep_int q.2⟩
 · obtain rfl := inv_adr r1
   obtain rfl := inv_int r2
   split at q
   · rename_i ts e0
     obtain ⟨xs, h1, h2⟩ := hh _ _ e0
     obtain ⟨q1, q2, q3, q4⟩ := q
     refine op_rep pins s σ H _ _ v u Q2 I rx ry ⟨_, _, xs, rfl, rfl, h1, q1, q2, by rw [h2.length]; exact q3, fun r hr => ?_⟩
     exact en _ _ _ _ (Kp.new hr) (hh.newL hr (h2.rep _)) rep_adr (q4 r (hh.free hr))
   · exact q.elim
 · obtain ⟨l, xs, rfl, g1, g2⟩ := inv_tup r1
   obtain rfl := inv_int r2
   obtain ⟨q1, q2, q3, q4⟩ := q
   refine op_repT pins s σ H _ _ v u Q2 I rx ry ⟨_, _, xs, rfl, rfl, g1, q1, q2, by rw [g2.length]; exact q3, fun r H' h' c => ?_⟩
   rcases c with rfl | ⟨c1, rfl⟩
   · exact en _ _ _ _ Kp.refl hh (rep_tup h' (g2.rep _)) q4
   · exact en _ _ _ _ (Kp.new c1) (hh.keep c1) (rep_tup h' (Reps.kp (Kp.new c1) _ _ (g2.rep _))) q4
 · exact q.elim
noncomputable def rCmp3 (g : Int → Int → Bool) : R3 := fun x y M Q => match x, y with
 | .int i, .int j => Q (.bl (g i j)) M
 | _, _ => False
theorem op3_cmp {f : Value → Value → Sem Value} {g : Int → Int → Bool} (h : OpR X f (rI0 fun i j => .bl (g i j))) : OpR3 X f (rCmp3 g) := by
 intro pins s σ H x y v u Q2 I rx ry q
 obtain ⟨a, b, M, Q, r1, r2, hh, q, en⟩ := q
 unfold rCmp3 at q
 split at q
 · obtain rfl := inv_int r1
   obtain rfl := inv_int r2
   exact h pins s σ H _ _ v u Q2 I rx ry ⟨_, _, rfl, rfl, en _ _ M H Kp.refl hh rep_bl q⟩
 · exact q.elim
noncomputable def rLt3 : R3 := rCmp3 fun i j => decide (i < j)
noncomputable def rLe3 : R3 := rCmp3 fun i j => decide (i ≤ j)
noncomputable def rGt3 : R3 := rCmp3 fun i j => decide (j < i)
noncomputable def rGe3 : R3 := rCmp3 fun i j => decide (j ≤ i)
theorem op3_lt : OpR3 X (compareOp .Lt) rLt3 := op3_cmp op_lt
theorem op3_le : OpR3 X (compareOp .LtE) rLe3 := op3_cmp op_le
theorem op3_gt : OpR3 X (compareOp .Gt) rGt3 := op3_cmp op_gt
theorem op3_ge : OpR3 X (compareOp .GtE) rGe3 := op3_cmp op_ge
noncomputable def rEqv (g : Bool → Bool) : R3 := fun x y M Q => match x, y with
 | .adr p, .adr q => (match M p, M q with
   | some (.lst a), some (.lst b) => pureTs a = true ∧ pureTs b = true ∧ depTs a ≤ 30 ∧ Q (.bl (g (eqTs a b))) M
   | _, _ => False)
 | x, y => pureT x = true ∧ pureT y = true ∧ depT x ≤ 30 ∧ Q (.bl (g (eqT x y))) M
noncomputable def rEq3 : R3 := rEqv id
noncomputable def rNe3 : R3 := rEqv not
theorem lists_eqv {pins : List (Addr × Obj)} {σ : St} {H : Hp} {s : Shared} (I : Inv X pins σ H s) (hu : X.A.units + 64 < cLine) {p p' : Addr} {xs ys : List V} {ts us : List T} (h1 : H p = some (.lst xs)) (h2 : Reps X.K H xs ts) (g1 : H p' = some (.lst ys)) (g2 : Reps X.K H ys us)
   (px : pureTs ts = true) (py : pureTs us = true) (hd : depTs ts ≤ 30) :
   SeqAt.RcAt X.A s (.ref p) (.ref p') (eqTs ts us) ∧ SeqAt.RcNeAt X.A s (.ref p) (.ref p') (!(eqTs ts us)) := by
 obtain ⟨its, r1, pl, _⟩ := I.list (SqL.of h1)
 obtain ⟨its2, r2, pl2, _⟩ := I.list (SqL.of g1)
 have l1 := h2.length
 have l2 := g2.length
 have m1 := r1.length
 have m2 := r2.length
 have hu' : X.A.units < cLine := by lia
 by_cases hl : its.length = its2.length
 · have he := items_eq (X := X) (A := X.A.in1) (s := s) (n := 30) px py hd h2 g2 r1 r2 fun x y v u a b hx px py rx ry ra rb => (eqAt_T I 30 X.A.in1 x y v u a b hx (by show X.A.units + 1 + 30 + 1 < cLine; lia) px py rx ry ra rb).1
   have hsz : its.toArray.size = its2.toArray.size := by simpa using hl
   have rc := SeqAt.RcAt.lists (A := X.A) pl.isList pl2.isList hsz hu' he
   have rn := SeqAt.RcNeAt.lists (A := X.A) pl.isList pl2.isList hsz hu' he
   have ee : (List.range its.toArray.size).all (eqJ ts us) = eqTs ts us := by
     rw [← eqTs_range, List.size_toArray, ← l1, ← l2, m1, m2, ← hl]
     simp
   rw [ee] at rc rn
   exact ⟨rc, rn⟩
 · have hne : eqTs ts us = false := by
     cases q : eqTs ts us with
     | false => rfl
     | true => have := eqTs_len q; lia
   have hsz : (its.toArray.size != its2.toArray.size) = true := by simpa using hl
   rw [hne]
   exact ⟨SeqAt.RcAt.lists_lengths pl.isList pl2.isList hsz hu', SeqAt.RcNeAt.lists_lengths pl.isList pl2.isList hsz hu'⟩
theorem op3_eq (hu : X.A.units + 64 < cLine) : OpR3 X (compareOp .Eq) rEq3 := by
 intro pins s σ H x y v u Q2 I rx ry q
 obtain ⟨a, b, M, Q, r1, r2, hh, q, en⟩ := q
 unfold rEq3 rEqv at q
 split at q
 · rename_i p p'
   split at q
   · rename_i ts us e1 e2
     obtain ⟨xs, h1, h2⟩ := hh _ _ e1
     obtain ⟨ys, g1, g2⟩ := hh _ _ e2
     obtain rfl := inv_adr r1
     obtain rfl := inv_adr r2
     cases rx
     cases ry
     exact (lists_eqv I hu h1 h2 g1 g2 q.1 q.2.1 q.2.2.1).1 _ _ _ _ ⟨.bl _, H, I, rfl, en _ _ M H Kp.refl hh rep_bl q.2.2.2⟩
   · exact q.elim
 · obtain ⟨q1, q2, q3, q⟩ := q
   exact (eqAt_T I 30 X.A a b x y v u q3 (by lia) q1 q2 r1 r2 rx ry).2.1 _ _ _ _ ⟨.bl _, H, I, rfl, en _ _ M H Kp.refl hh rep_bl q⟩
theorem op3_ne (hu : X.A.units + 64 < cLine) : OpR3 X (compareOp .NotEq) rNe3 := by
 intro pins s σ H x y v u Q2 I rx ry q
 obtain ⟨a, b, M, Q, r1, r2, hh, q, en⟩ := q
 unfold rNe3 rEqv at q
 split at q
 · rename_i p p'
   split at q
   · rename_i ts us e1 e2
     obtain ⟨xs, h1, h2⟩ := hh _ _ e1
     obtain ⟨ys, g1, g2⟩ := hh _ _ e2
     obtain rfl := inv_adr r1
     obtain rfl := inv_adr r2
     cases rx
     cases ry
     exact (lists_eqv I hu h1 h2 g1 g2 q.1 q.2.1 q.2.2.1).2 _ _ _ _ ⟨.bl _, H, I, rfl, en _ _ M H Kp.refl hh rep_bl q.2.2.2⟩
   · exact q.elim
 · obtain ⟨q1, q2, q3, q⟩ := q
   exact (eqAt_T I 30 X.A a b x y v u q3 (by lia) q1 q2 r1 r2 rx ry).2.2 _ _ _ _ ⟨.bl _, H, I, rfl, en _ _ M H Kp.refl hh rep_bl q⟩
theorem h_cmp {op : CmpOp} {r : R3} (ho : OpR3 X (compareOp op) r) (ha : HE X a ta) (hb : HE X b tb) (hm : behindInMarks op b = false) : HE X (.Compare a [op] [b] pos) (tOp3 r ta tb) := fun ρ M Q h =>
 (pe_cmpR ho (ha.d (ρ := ρ)) (hb.d (ρ := ρ)) hm).imp fun σ H Q2 b => dOp h b
noncomputable def tTest3 (t : TE3) : TT3 := fun ρ M Q => t ρ M fun x M1 => match x with
 | .bl k => Q k M1
 | _ => False
theorem end_test {K : PySem.W.Frag} {H : Hp} {Q : Bool → MH → Prop} {Q2 : Bool → Hp → Prop} (en : EndT K H Q Q2) : EndE K H (fun x M1 => match x with | .bl k => Q k M1 | _ => False) (fun x H' => ∃ k, x = .bl k ∧ Q2 k H') := by
 intro t v M' H' k h r q
 split at q
 · obtain rfl := inv_bl r
   exact ⟨_, rfl, en _ M' H' k h q⟩
 · exact q.elim
theorem h_tcmp {op : CmpOp} {r : R3} (ho : OpR3 X (compareOp op) r) (ha : HE X a ta) (hb : HE X b tb) (hm : behindInMarks op b = false) : HT X (.Compare a [op] [b] pos) (tTest3 (tOp3 r ta tb)) := fun ρ M Q h =>
 (pt_cmpR ho (ha.d (ρ := ρ)) (hb.d (ρ := ρ)) hm).imp fun σ H Q2 ⟨hr, hh, en⟩ => dOp (ta := ta) (tb := tb) (r := r) h ⟨hr, hh, end_test en⟩
noncomputable def tChain3 (r r' : R3) (ta tb tc : TE3) : TE3 := fun ρ M Q => ta ρ M fun x M1 => tb ρ M1 fun y M2 => r x y M2 fun z M3 => match z with
 | .bl k => (if k = true then tc ρ M3 fun w M4 => r' y w M4 Q else Q (.bl false) M3)
 | _ => False
theorem dChain {ρ : En} {M : MH} {Q : VK3} {r r' : R3} (h : tChain3 r r' ta tb tc ρ M Q) {σ : St} {H : Hp} {Q2 : VK} (b : bE X.K ρ M Q σ H Q2) : tChain (dR X.K r) (dR X.K r') (dE X.K ρ ta) (dE X.K ρ tb) (dE X.K ρ tc) σ H Q2 := by
 obtain ⟨hr, hh, en⟩ := b
 refine ⟨M, _, h, hr, hh, fun t v M1 H1 k1 h1 r1 q1 => ⟨M1, _, q1, hr.kp k1, h1, fun t2 v2 M2 H2 k2 h2 r2 q2 => ⟨t, t2, M2, _, Rep.kp k2 _ _ r1, r2, h2, q2, fun z v3 M3 H3 k3 h3 r3 q3 => ?_⟩⟩⟩
 split at q3
 · rename_i k
   obtain rfl := inv_bl r3
   refine ⟨k, rfl, ?_⟩
   have kk := k1.trans (k2.trans k3)
   split
   · rename_i hk
     rw [if_pos hk] at q3
     exact ⟨M3, _, q3, hr.kp kk, h3, fun t4 v4 M4 H4 k4 h4 r4 q4 => ⟨t2, t4, M4, Q, Rep.kp (k3.trans k4) _ _ r2, r4, h4, q4, en.kp (kk.trans k4)⟩⟩
   · rename_i hk
     rw [if_neg hk] at q3
     exact en _ _ M3 H3 kk h3 rep_bl q3
 · exact q3.elim
theorem h_chain {op op' : CmpOp} {r r' : R3} (ho : OpR3 X (compareOp op) r) (ho' : OpR3 X (compareOp op') r') (ha : HE X a ta) (hb : HE X b tb) (hc : HE X c tc)
   (hm : lastMarks [op, op'] [b, c] = false := by with_unfolding_all rfl) : HE X (.Compare a [op, op'] [b, c] pos) (tChain3 r r' ta tb tc) := fun ρ M Q h =>
 (pe_chain ho ho' (ha.d (ρ := ρ)) (hb.d (ρ := ρ)) (hc.d (ρ := ρ)) hm).imp fun σ H Q2 b => dChain h b
theorem h_tchain {op op' : CmpOp} {r r' : R3} (ho : OpR3 X (compareOp op) r) (ho' : OpR3 X (compareOp op') r') (ha : HE X a ta) (hb : HE X b tb) (hc : HE X c tc)
   (hm : lastMarks [op, op'] [b, c] = false := by with_unfolding_all rfl) : HT X (.Compare a [op, op'] [b, c] pos) (tTest3 (tChain3 r r' ta tb tc)) := fun ρ M Q h =>
 (pt_chain ho ho' (ha.d (ρ := ρ)) (hb.d (ρ := ρ)) (hc.d (ρ := ρ)) hm).imp fun σ H Q2 ⟨hr, hh, en⟩ => dChain (ta := ta) (tb := tb) (tc := tc) (r := r) (r' := r') h ⟨hr, hh, end_test en⟩
noncomputable def truT (M : MH) : T → Option Bool
 | .non => some false
 | .bl b => some b
 | .int i => some (i != 0)
 | .str y => if y.length ≤ sizeLine then some (decide (y.length ≠ 0)) else none
 | .tup ts => some (!ts.isEmpty)
 | .rd ts => some (!ts.isEmpty)
 | .dic _ _ => none
 | .adr p => match M p with
   | some (.lst ts) => some (!ts.isEmpty)
   | _ => none
noncomputable def tTru3 (te : TE3) : TT3 := fun ρ M Q => te ρ M fun x M1 => match truT M1 x with
 | some k => Q k M1
 | none => False
theorem empty_of {K : PySem.W.Frag} {H : Hp} {xs : List V} {ts : List T} (h : Reps K H xs ts) : (!xs.isEmpty) = !ts.isEmpty := by
 have := h.length
 cases xs <;> cases ts <;> first | rfl | (simp at this)
theorem h_truth (ha : HE X a ta) (he : ∀ whole, isTrue a X.env whole = (do let v ← whole; standAt a.pos; holding [v] (truthy v)) := by intro _; rfl) : HT X a (tTru3 ta) := fun ρ M Q h =>
 (pt_truth (ha.d (ρ := ρ)) he).imp fun σ H Q2 ⟨hr, hh, en⟩ => ⟨M, _, h, hr, hh, fun t v M1 H1 k1 h1 r1 q1 => by
   have fin : ∀ k, truT M1 t = some k → Q2 k H1 := fun k e => by
     have q : (match truT M1 t with | some k => Q k M1 | none => False) := q1
     rw [e] at q
     exact en k M1 H1 k1 h1 q
   cases t with
   | non => obtain rfl := inv_non r1; exact ⟨false, rfl, fin _ rfl⟩
   | bl b => obtain rfl := inv_bl r1; exact ⟨b, rfl, fin _ rfl⟩
   | int i => obtain rfl := inv_int r1; exact ⟨_, rfl, fin _ rfl⟩
   | str y =>
     obtain rfl := inv_str r1
     by_cases hy : y.length ≤ sizeLine
     · refine ⟨_, ⟨hy, rfl⟩, fin _ ?_⟩
       show (if y.length ≤ sizeLine then some (decide (y.length ≠ 0)) else none) = _
       rw [if_pos hy]
       congr 1
       by_cases h0 : y.length = 0
       · rw [h0]; rfl
       · have : ((y.length : Int) != 0) = true := by simpa using h0
         rw [this]; simpa using h0
     · have q : (match truT M1 (.str y) with | some k => Q k M1 | none => False) := q1
       have e : truT M1 (.str y) = none := if_neg hy
       rw [e] at q
       exact q.elim
   | tup ts =>
     obtain ⟨p, xs, rfl, g1, g2⟩ := inv_tup r1
     exact ⟨!xs.isEmpty, .inr (.inl ⟨xs, g1, rfl⟩), fin _ (by rw [empty_of g2]; rfl)⟩
   | rd ts =>
     obtain ⟨p, xs, rfl, g1, g2⟩ := inv_rd r1
     exact ⟨!xs.isEmpty, .inl ⟨xs, g1.sq, rfl⟩, fin _ (by rw [empty_of g2]; rfl)⟩
   | dic ks ts =>
     have q : (match truT M1 (.dic ks ts) with | some k => Q k M1 | none => False) := q1
     exact q.elim
   | adr p =>
     obtain rfl := inv_adr r1
     cases e0 : M1 p with
     | none =>
       have q : (match truT M1 (.adr p) with | some k => Q k M1 | none => False) := q1
       have e : truT M1 (.adr p) = none := by show (match M1 p with | some (.lst ts) => some (!ts.isEmpty) | _ => none) = none; rw [e0]
       rw [e] at q
       exact q.elim
     | some o =>
       cases o with
       | lst ts =>
         obtain ⟨xs, g1, g2⟩ := h1 _ _ e0
         exact ⟨!xs.isEmpty, .inl ⟨xs, SqL.of g1, rfl⟩, fin _ (by show (match M1 p with | some (.lst ts) => some (!ts.isEmpty) | _ => none) = _; rw [e0, empty_of g2])⟩
       | dk kvs =>
         have q : (match truT M1 (.adr p) with | some k => Q k M1 | none => False) := q1
         have e : truT M1 (.adr p) = none := by show (match M1 p with | some (.lst ts) => some (!ts.isEmpty) | _ => none) = none; rw [e0]
         rw [e] at q
         exact q.elim
       | dt kvs =>
         have q : (match truT M1 (.adr p) with | some k => Q k M1 | none => False) := q1
         have e : truT M1 (.adr p) = none := by show (match M1 p with | some (.lst ts) => some (!ts.isEmpty) | _ => none) = none; rw [e0]
         rw [e] at q
         exact q.elim⟩
end
end L2
namespace L2
open PySem PySem.Spec PyProof.Rows
section
variable {X : Cx} {a b c e : Expr} {es rest : List Expr} {ta tb tc te : TE3} {tA tB : TT3} {t : TA3} {pos : Pos}
noncomputable def HW (X : Cx) (e : Expr) (t : TT3) : Prop := ∀ ρ M Q, t ρ M Q → PW X e (bT X.K ρ M Q)
theorem HW.d {t : TT3} {ρ : En} (h : HW X e t) : PW X e (dT X.K ρ t) := fun wh pins s σ H Q I ⟨M, Q3, q, b⟩ => h ρ M Q3 q wh pins s σ H Q I b
theorem PW.imp {t t' : TT} (h : PW X e t) (f : ∀ σ H Q, t' σ H Q → t σ H Q) : PW X e t' := fun wh pins s σ H Q I q => h wh pins s σ H Q I (f σ H Q q)
theorem HW.ht {t : TT3} (h : HW X e t) : HT X e t := fun ρ M Q q => (h ρ M Q q).pt
noncomputable def tAnd3 (t u : TT3) : TT3 := fun ρ M Q => t ρ M fun c M1 => if c = true then u ρ M1 Q else Q false M1
noncomputable def tOr3 (t u : TT3) : TT3 := fun ρ M Q => t ρ M fun c M1 => if c = true then Q true M1 else u ρ M1 Q
noncomputable def tNot3 (t : TT3) : TT3 := fun ρ M Q => t ρ M fun c M1 => Q (!c) M1
theorem h_not (ha : HT X a tA) : HT X (.UnaryOp .Not a pos) (tNot3 tA) := fun ρ M Q h =>
 (pt_not (ha.d (ρ := ρ))).imp fun σ H Q2 ⟨hr, hh, en⟩ => ⟨M, _, h, hr, hh, fun b M1 H1 k1 h1 q1 => en _ M1 H1 k1 h1 q1⟩
theorem w_and1 (ha : HT X a tA) : HW X (.BoolOp .And [a] pos) tA := fun ρ M Q h => (pw_and1 (ha.d (ρ := ρ))).imp fun σ H Q2 b => ⟨M, Q, h, b⟩
theorem w_or1 (ha : HT X a tA) : HW X (.BoolOp .Or [a] pos) tA := fun ρ M Q h => (pw_or1 (ha.d (ρ := ρ))).imp fun σ H Q2 b => ⟨M, Q, h, b⟩
theorem w_and (ha : HT X a tA) (hb : HW X (.BoolOp .And (b :: rest) pos) tB) : HW X (.BoolOp .And (a :: b :: rest) pos) (tAnd3 tA tB) := fun ρ M Q h =>
 (pw_and (ha.d (ρ := ρ)) (hb.d (ρ := ρ))).imp fun σ H Q2 ⟨hr, hh, en⟩ => ⟨M, _, h, hr, hh, fun b M1 H1 k1 h1 q1 => by
   dsimp only at q1 ⊢
   split
   · rename_i hb; rw [if_pos hb] at q1
     exact ⟨M1, Q, q1, hr.kp k1, h1, fun b' M2 H2 k2 => en b' M2 H2 (k1.trans k2)⟩
   · rename_i hb; rw [if_neg hb] at q1
     exact en _ M1 H1 k1 h1 q1⟩
theorem w_or (ha : HT X a tA) (hb : HW X (.BoolOp .Or (b :: rest) pos) tB) : HW X (.BoolOp .Or (a :: b :: rest) pos) (tOr3 tA tB) := fun ρ M Q h =>
 (pw_or (ha.d (ρ := ρ)) (hb.d (ρ := ρ))).imp fun σ H Q2 ⟨hr, hh, en⟩ => ⟨M, _, h, hr, hh, fun b M1 H1 k1 h1 q1 => by
   dsimp only at q1 ⊢
   split
   · rename_i hb; rw [if_pos hb] at q1
     exact en _ M1 H1 k1 h1 q1
   · rename_i hb; rw [if_neg hb] at q1
     exact ⟨M1, Q, q1, hr.kp k1, h1, fun b' M2 H2 k2 => en b' M2 H2 (k1.trans k2)⟩⟩
noncomputable def tAndV3 (ta tb : TE3) : TE3 := fun ρ M Q => ta ρ M fun x M1 => match x with
 | .bl c => (if c = true then tb ρ M1 Q else Q (.bl false) M1)
 | _ => False
theorem h_one {op} (ha : HE X a ta) : HE X (.BoolOp op [a] pos) ta := fun ρ M Q h => pe_one (ha ρ M Q h)
theorem h_and (ha : HE X a ta) (hb : HE X (.BoolOp .And (b :: rest) pos) tb) : HE X (.BoolOp .And (a :: b :: rest) pos) (tAndV3 ta tb) := fun ρ M Q h =>
 (pe_and (ha.d (ρ := ρ)) (hb.d (ρ := ρ))).imp fun σ H Q2 ⟨hr, hh, en⟩ => ⟨M, _, h, hr, hh, fun x v M1 H1 k1 h1 r1 q1 => by
   dsimp only at q1 ⊢
   split at q1
   · rename_i c
     obtain rfl := inv_bl r1
     refine ⟨c, rfl, ?_⟩
     split
     · rename_i hc; rw [if_pos hc] at q1
       exact ⟨M1, Q, q1, hr.kp k1, h1, en.kp k1⟩
     · rename_i hc; rw [if_neg hc] at q1
       exact en _ _ M1 H1 k1 h1 rep_bl q1
   · exact q1.elim⟩
noncomputable def tNil3 : TA3 := fun _ M Q => Q [] M
noncomputable def tCons3 (ta : TE3) (tr : TA3) : TA3 := fun ρ M Q => ta ρ M fun x M1 => tr ρ M1 fun xs M2 => Q (x :: xs) M2
theorem a_nil : HA X [] tNil3 := fun ρ M Q h => pa_nil.imp fun σ H Q2 ⟨hr, hh, en⟩ => en [] [] M H Kp.refl hh .nil h
theorem a_cons (ha : HE X a ta) (hr : HA X es t) (hs : starEach (a :: es) X.env = (false, eval a X.env) :: starEach es X.env := by rfl) : HA X (a :: es) (tCons3 ta t) := fun ρ M Q h =>
 (pa_cons (ha.d (ρ := ρ)) (hr.d (ρ := ρ)) hs).imp fun σ H Q2 ⟨hr, hh, en⟩ => ⟨M, _, h, hr, hh, fun x v M1 H1 k1 h1 r1 q1 => ⟨M1, _, q1, hr.kp k1, h1, fun ts vs M2 H2 k2 h2 r2 q2 =>
   en _ _ M2 H2 (k1.trans k2) h2 (.cons (Rep.kp k2 _ _ r1) r2) q2⟩⟩
noncomputable def tTup3 (t : TA3) : TE3 := fun ρ M Q => t ρ M fun xs M1 => xs.length ≤ sizeLine ∧ Q (.tup xs) M1
noncomputable def tLst3 (t : TA3) : TE3 := fun ρ M Q => t ρ M fun xs M1 => xs.length ≤ sizeLine ∧ ∀ p, M1 p = none → Q (.adr p) (updM M1 p (.lst xs))
theorem h_tup {x1} (h : HA X es t) : HE X (.Tuple es x1 pos) (tTup3 t) := fun ρ M Q q =>
 (pe_tup (h.d (ρ := ρ))).imp fun σ H Q2 ⟨hr, hh, en⟩ => ⟨M, _, q, hr, hh, fun ts vs M1 H1 k1 h1 r1 q1 =>
   ⟨by rw [r1.length]; exact q1.1, fun p hp => en _ _ M1 _ (k1.trans (Kp.new hp)) (h1.keep hp) (rep_tup (SqT.of upd_same) (Reps.kp (Kp.new hp) _ _ r1)) q1.2⟩⟩
theorem h_lst (h : HA X es t) : HE X (.List es pos) (tLst3 t) := fun ρ M Q q =>
 (pe_lst (h.d (ρ := ρ))).imp fun σ H Q2 ⟨hr, hh, en⟩ => ⟨M, _, q, hr, hh, fun ts vs M1 H1 k1 h1 r1 q1 =>
   ⟨by rw [r1.length]; exact q1.1, fun p hp => en _ _ _ _ (k1.trans (Kp.new hp)) (h1.newL hp r1) rep_adr (q1.2 p (h1.free hp))⟩⟩
noncomputable abbrev Sp3 := List T → MH → VK3 → Prop
noncomputable def dSp (K : PySem.W.Frag) (sp : Sp3) : Sp := fun vs H Q2 _ => ∃ ts M Q, Reps K H vs ts ∧ HR K H M ∧ sp ts M Q ∧ EndE K H Q Q2
structure Df (P : Program) (w : World) (K : PySem.W.Frag) (mg : Str → Option Value) (base : Heap) (n : Nat) (x : Str) (ps : List Str) (sp : Sp3) : Prop where
 out : ∃ f fd, FnOk P w K mg base CX0 n f fd ps (dSp K sp) ∧ mg x = some (.ref f) ∧ PySem.W.keepIn K (.ref f) = true ∧ Binds K fd ps []
theorem Df.mono {P : Program} {w : World} {K : PySem.W.Frag} {mg : Str → Option Value} {base : Heap} {n m : Nat} {x : Str} {ps : List Str} {sp : Sp3} (D : Df P w K mg base n x ps sp) (h : n ≤ m) : Df P w K mg base m x ps sp := by
 obtain ⟨f, fd, F, a, b, c⟩ := D.out
 exact ⟨f, fd, F.mono h, a, b, c⟩
noncomputable def tCall3 (sp : Sp3) (t : TA3) : TE3 := fun ρ M Q => t ρ M fun ts M1 => sp ts M1 Q
theorem h_call {n : Nat} {x : Str} {ps : List Str} {sp : Sp3} {p : Pos} (D : Df X.prog X.w X.K X.mg X.base n x ps sp) (hr : Room n X.A) (ha : HA X (e :: es) t) (hg : Gl X x := by rfl) (hdb : (x == ("__debug__" : Str)) = false := by decide)
   (he : starEach (e :: es) X.env = (false, eval e X.env) :: starEach es X.env := by rfl) (hpl : (backTo pos (starEach es X.env)).any (·.1) = false := by rfl) :
   HE X (.Call (.Name x p) (e :: es) [] pos) (tCall3 sp t) := fun ρ M Q h => by
 obtain ⟨f, fd, F, hm, hk, hb⟩ := D.out
 exact (pe_call F hr hg hm hk hb .nil pass0 (ha.d (ρ := ρ)) hdb he hpl).imp fun σ H Q2 ⟨hr, hh, en⟩ => ⟨M, _, h, hr, hh, fun ts vs M1 H1 k1 h1 r1 q1 =>
   ⟨ts, M1, Q, by rw [List.append_nil]; exact r1, h1, q1, en.kp k1⟩⟩
noncomputable def tCB3 (r : List T → MH → VK3 → Prop) (t : TA3) : TE3 := fun ρ M Q => t ρ M fun ts M1 => r ts M1 Q
theorem h_callB {x : Str} {id : String} {r : List T → MH → VK3 → Prop} {p : Pos} (hc : CallR3 X (.builtin id) r) (hm : X.mg x = none) (hv : bootBuiltins x = some (.builtin id)) (ha : HA X (e :: es) t) (hg : Gl X x := by rfl) (hn : x ≠ "__name__" := by decide) (hdb : (x == ("__debug__" : Str)) = false := by decide)
   (he : starEach (e :: es) X.env = (false, eval e X.env) :: starEach es X.env := by rfl) (hpl : (backTo pos (starEach es X.env)).any (·.1) = false := by rfl) : HE X (.Call (.Name x p) (e :: es) [] pos) (tCB3 r t) := fun ρ M Q h =>
 (pe_callB hc hg hm hv (ha.d (ρ := ρ)) hn hdb he hpl).imp fun σ H Q2 ⟨hr, hh, en⟩ => ⟨M, _, h, hr, hh, fun ts vs M1 H1 k1 h1 r1 q1 => ⟨ts, M1, Q, r1, h1, q1, en.kp k1⟩⟩
theorem h_callT {x : Str} {ty : String} {r : List T → MH → VK3 → Prop} {p : Pos} (hc : CallR3 X (.type ty) r) (hm : X.mg x = none) (hv : bootBuiltins x = some (.type ty)) (ha : HA X (e :: es) t) (hg : Gl X x := by rfl) (hn : x ≠ "__name__" := by decide) (hdb : (x == ("__debug__" : Str)) = false := by decide)
   (he : starEach (e :: es) X.env = (false, eval e X.env) :: starEach es X.env := by rfl) (hpl : (backTo pos (starEach es X.env)).any (·.1) = false := by rfl) : HE X (.Call (.Name x p) (e :: es) [] pos) (tCB3 r t) := fun ρ M Q h =>
 (pe_callTy hc hg hm hv (ha.d (ρ := ρ)) hn hdb he hpl).imp fun σ H Q2 ⟨hr, hh, en⟩ => ⟨M, _, h, hr, hh, fun ts vs M1 H1 k1 h1 r1 q1 => ⟨ts, M1, Q, r1, h1, q1, en.kp k1⟩⟩
end
section
variable {X : Cx}
theorem reps1 {K : PySem.W.Frag} {H : Hp} {vs : List V} {x : T} (r : Reps K H vs [x]) : ∃ v, vs = [v] ∧ Rep K H v x := by
 unfold Reps at r
 obtain ⟨v, w, rfl, h, r⟩ := r
 unfold Reps at r
 subst r
 exact ⟨v, rfl, h⟩
theorem reps2 {K : PySem.W.Frag} {H : Hp} {vs : List V} {x y : T} (r : Reps K H vs [x, y]) : ∃ v w, vs = [v, w] ∧ Rep K H v x ∧ Rep K H w y := by
 unfold Reps at r
 obtain ⟨v, r', rfl, h, r⟩ := r
 obtain ⟨w, rfl, h'⟩ := reps1 r
 exact ⟨v, w, rfl, h, h'⟩
noncomputable def rLen3 : List T → MH → VK3 → Prop := fun xs M Q => match xs with
 | [.tup ts] => Q (.int ts.length) M
 | [.rd ts] => Q (.int ts.length) M
 | [.adr p] => (match M p with | some (.lst ts) => Q (.int ts.length) M | _ => False)
 | [.str z] => z.length ≤ sizeLine ∧ Q (.int z.length) M
 | _ => False
theorem call3_len : CallR3 X (.builtin "len") rLen3 := by
 intro pins s σ H vs us Q2 I r h
 obtain ⟨xs, M, Q, rr, hh, q, en⟩ := h
 unfold rLen3 at q
 split at q
 · obtain ⟨v, rfl, r1⟩ := reps1 rr
   obtain ⟨p, ys, rfl, g1, g2⟩ := inv_tup r1
   exact call_len_seq pins s σ H _ us Q2 I r ⟨p, ys, rfl, .inr g1, by rw [g2.length]; exact en _ _ M H Kp.refl hh rep_int q⟩
 · obtain ⟨v, rfl, r1⟩ := reps1 rr
   obtain ⟨p, ys, rfl, g1, g2⟩ := inv_rd r1
   exact call_len_seq pins s σ H _ us Q2 I r ⟨p, ys, rfl, .inl g1.sq, by rw [g2.length]; exact en _ _ M H Kp.refl hh rep_int q⟩
 · obtain ⟨v, rfl, r1⟩ := reps1 rr
   obtain rfl := inv_adr r1
   split at q
   · rename_i ts e0
     obtain ⟨ys, g1, g2⟩ := hh _ _ e0
     exact call_len_seq pins s σ H _ us Q2 I r ⟨_, ys, rfl, .inl (SqL.of g1), by rw [g2.length]; exact en _ _ M H Kp.refl hh rep_int q⟩
   · exact q.elim
 · obtain ⟨v, rfl, r1⟩ := reps1 rr
   obtain rfl := inv_str r1
   exact call_len_str pins s σ H _ us Q2 I r ⟨_, rfl, q.1, en _ _ M H Kp.refl hh rep_int q.2⟩
 · exact q.elim
noncomputable def rAbs3 : List T → MH → VK3 → Prop := fun xs M Q => match xs with
 | [.int i] => Q (.int i.natAbs) M
 | _ => False
theorem call3_abs : CallR3 X (.builtin "abs") rAbs3 := by
 intro pins s σ H vs us Q2 I r h
 obtain ⟨xs, M, Q, rr, hh, q, en⟩ := h
 unfold rAbs3 at q
 split at q
 · rename_i i
   obtain ⟨v, rfl, r1⟩ := reps1 rr
   obtain rfl := inv_int r1
   refine call_abs pins s σ H _ us Q2 I r ⟨_, rfl, en _ _ M H Kp.refl hh ?_ q⟩
   have e : (if i < 0 then -i else i) = (i.natAbs : Int) := by split <;> lia
   rw [e]; exact rep_int
 · exact q.elim
noncomputable def rTuple3 : List T → MH → VK3 → Prop := fun xs M Q => match xs with
 | [.tup ts] => Q (.tup ts) M
 | [.rd ts] => Q (.tup ts) M
 | [.adr p] => (match M p with | some (.lst ts) => Q (.tup ts) M | _ => False)
 | _ => False
theorem call3_tuple : CallR3 X (.type "tuple") rTuple3 := by
 intro pins s σ H vs us Q2 I r h
 obtain ⟨xs, M, Q, rr, hh, q, en⟩ := h
 unfold rTuple3 at q
 split at q
 · obtain ⟨v, rfl, r1⟩ := reps1 rr
   obtain ⟨p, ys, rfl, g1, g2⟩ := inv_tup r1
   exact call_tuple_of pins s σ H _ us Q2 I r ⟨p, ys, rfl, .inr ⟨g1, en _ _ M H Kp.refl hh r1 q⟩⟩
 · obtain ⟨v, rfl, r1⟩ := reps1 rr
   obtain ⟨p, ys, rfl, g1, g2⟩ := inv_rd r1
   exact call_tuple_of pins s σ H _ us Q2 I r ⟨p, ys, rfl, .inl ⟨g1.sq, fun l hl => en _ _ M _ (Kp.new hl) (hh.keep hl) (rep_tup (SqT.of upd_same) (Reps.kp (Kp.new hl) _ _ g2)) q⟩⟩
 · obtain ⟨v, rfl, r1⟩ := reps1 rr
   obtain rfl := inv_adr r1
   split at q
   · rename_i ts e0
     obtain ⟨ys, g1, g2⟩ := hh _ _ e0
     exact call_tuple_of pins s σ H _ us Q2 I r ⟨_, ys, rfl, .inl ⟨SqL.of g1, fun l hl => en _ _ M _ (Kp.new hl) (hh.keep hl) (rep_tup (SqT.of upd_same) (Reps.kp (Kp.new hl) _ _ g2)) q⟩⟩
   · exact q.elim
 · exact q.elim
noncomputable def rList3 : List T → MH → VK3 → Prop := fun xs M Q => match xs with
 | [.tup ts] => ∀ r, M r = none → Q (.adr r) (updM M r (.lst ts))
 | [.rd ts] => ∀ r, M r = none → Q (.adr r) (updM M r (.lst ts))
 | [.adr p] => (match M p with | some (.lst ts) => ∀ r, M r = none → Q (.adr r) (updM M r (.lst ts)) | _ => False)
 | _ => False
theorem call3_list : CallR3 X (.type "list") rList3 := by
 intro pins s σ H vs us Q2 I r h
 obtain ⟨xs, M, Q, rr, hh, q, en⟩ := h
 unfold rList3 at q
 split at q
 · obtain ⟨v, rfl, r1⟩ := reps1 rr
   obtain ⟨p, ys, rfl, g1, g2⟩ := inv_tup r1
   exact call_list_of pins s σ H _ us Q2 I r ⟨p, ys, rfl, .inr g1, fun l hl => en _ _ _ _ (Kp.new hl) (hh.newL hl g2) rep_adr (q l (hh.free hl))⟩
 · obtain ⟨v, rfl, r1⟩ := reps1 rr
   obtain ⟨p, ys, rfl, g1, g2⟩ := inv_rd r1
   exact call_list_of pins s σ H _ us Q2 I r ⟨p, ys, rfl, .inl g1.sq, fun l hl => en _ _ _ _ (Kp.new hl) (hh.newL hl g2) rep_adr (q l (hh.free hl))⟩
 · obtain ⟨v, rfl, r1⟩ := reps1 rr
   obtain rfl := inv_adr r1
   split at q
   · rename_i ts e0
     obtain ⟨ys, g1, g2⟩ := hh _ _ e0
     exact call_list_of pins s σ H _ us Q2 I r ⟨_, ys, rfl, .inl (SqL.of g1), fun l hl => en _ _ _ _ (Kp.new hl) (hh.newL hl g2) rep_adr (q l (hh.free hl))⟩
   · exact q.elim
 · exact q.elim
theorem call_all_bools (hc : X.calm = true) : CallR X (.builtin "all") (fun xs H Q => ∃ (p : Addr) (bs : List Bool), xs = [.ref p] ∧ SqL X.K H p (bs.map V.bl) ∧ Q (.bl (bs.all id)) H) := by
 intro pins s σ H xs us Q I r h
 obtain ⟨p, bs, rfl, hq, q⟩ := h
 obtain ⟨u, rfl, rx⟩ := vals1 r
 cases rx
 obtain ⟨its, r', pl, hz⟩ := I.list hq
 have hlen := r'.length
 refine call_all_walk (wpAny_pyIter_list pl.isList ?_)
 have hp : p < s.heap.objs.size := by obtain ⟨o, n, e, _⟩ := pl; exact Heap.lt_size e
 refine ⟨s.heap.objs.size, _, _, _, _, _, fun i => (bs[i]?).getD true, rfl, Walks.list (A := X.A.in1) (I.ok.hd hc) s.heap.objs.size p (Nat.ne_of_lt hp) its.toArray, ⟨⟨_, Heap.get?_push_size _ rfl, rfl, rfl⟩, pl.isList.push _⟩, ?_, fun h' tk hk => ?_⟩
 · intro i v s' Q' E' hP hQ
   have hP' : its[i]? = some v := by simpa using hP
   have hi : i < bs.length := by
     have := (List.getElem?_eq_some_iff.mp hP').1
     rw [List.length_map] at hlen; lia
   obtain ⟨w, hw, rw'⟩ := r'.get (i := i) (x := .bl bs[i]) (by rw [List.getElem?_map, List.getElem?_eq_getElem hi] <;> rfl)
   rw [hP'] at hw; cases hw
   obtain rfl : v = Value.bool bs[i] := rw'
   refine wpAny_truthy_bool ?_
   have e : (bs[i]?).getD true = bs[i] := by rw [List.getElem?_eq_getElem hi] <;> rfl
   dsimp only at hQ; rw [e] at hQ; exact hQ
 · have e : (List.range its.toArray.size).all (fun i => (bs[i]?).getD true) = bs.all id := by
     rw [List.length_map] at hlen
     rw [List.size_toArray, ← hlen]
     rw [Bool.eq_iff_iff]
     simp only [List.all_eq_true, List.mem_range, id]
     constructor
     · intro h b hb
       obtain ⟨i, hi, rfl⟩ := List.getElem_of_mem hb
       have := h i hi
       rw [List.getElem?_eq_getElem hi] at this; exact this
     · intro h i hi
       rw [List.getElem?_eq_getElem hi]; exact h _ (List.getElem_mem hi)
   rw [e]
   have I1 : Inv X pins σ H { s with heap := h', toks := tk } := I.kept fun b o eb => hk b o (by
     intro hm
     have : b = s.heap.objs.size := by simpa using hm
     rw [this] at eb
     exact absurd (Heap.lt_size eb) (Nat.lt_irrefl _)) (Heap.get?_push_of_some _ eb)
   exact ⟨.bl _, H, I1, rfl, q⟩
noncomputable def bools : List T → Option (List Bool)
 | [] => some []
 | .bl b :: ts => (bools ts).map (b :: ·)
 | _ :: _ => none
theorem bools_reps {K : PySem.W.Frag} {H : Hp} : ∀ {vs : List V} {ts : List T} {bs : List Bool}, Reps K H vs ts → bools ts = some bs → vs = bs.map V.bl
 | vs, [], bs, h, e => by unfold bools at e; cases e; unfold Reps at h; exact h
 | vs, t :: ts, bs, h, e => by
   unfold Reps at h
   obtain ⟨v, r, rfl, h1, h2⟩ := h
   cases t with
   | bl b =>
     unfold bools at e
     cases q : bools ts with
     | none => rw [q] at e; cases e
     | some cs =>
       rw [q] at e; cases e
       obtain rfl := inv_bl h1
       rw [bools_reps h2 q]; rfl
   | _ => unfold bools at e; cases e
noncomputable def rAll3 : List T → MH → VK3 → Prop := fun xs M Q => match xs with
 | [.adr p] => (match M p with | some (.lst ts) => (match bools ts with | some bs => Q (.bl (bs.all id)) M | none => False) | _ => False)
 | _ => False
theorem call3_all (hc : X.calm = true) : CallR3 X (.builtin "all") rAll3 := by
 intro pins s σ H vs us Q2 I r h
 obtain ⟨xs, M, Q, rr, hh, q, en⟩ := h
 unfold rAll3 at q
 split at q
 · obtain ⟨v, rfl, r1⟩ := reps1 rr
   obtain rfl := inv_adr r1
   split at q
   · rename_i ts e0
     obtain ⟨ys, g1, g2⟩ := hh _ _ e0
     split at q
     · rename_i bs eb
       obtain rfl := bools_reps g2 eb
       exact call_all_bools hc pins s σ H _ us Q2 I r ⟨_, bs, rfl, SqL.of g1, en _ _ M H Kp.refl hh rep_bl q⟩
     · exact q.elim
   · exact q.elim
 · exact q.elim
end
end L2
namespace L2
open PySem PySem.Spec PyProof.Rows
section
variable {X : Cx} {a b c e : Expr} {st : Stmt} {rest ba bb body : List Stmt} {ta tb te : TE3} {tA : TT3} {t u : TS3} {pos : Pos}
noncomputable def tNext3 : TS3 := fun D ρ M => D.nx ρ M
noncomputable def tSeq3 (t u : TS3) : TS3 := fun D ρ M => t { D with nx := u D } ρ M
theorem EndS.nx' {K : PySem.W.Frag} {H : Hp} {D : Ends3} {D2 : Ends} {t : TS3} (h : EndS K H D D2) : EndS K H { D with nx := t D } { D2 with nx := dS K t D2 } :=
 ⟨fun ρ' M' σ' H' k r hh q => ⟨D, ρ', M', q, r, hh, h.kp k⟩, h.rt, h.bk, h.ct⟩
theorem ss_nil : HSs X [] tNext3 := fun D ρ M h => pss_nil.imp fun D2 σ H ⟨hr, hh, en⟩ => en.nx ρ M σ H Kp.refl hr hh h
theorem ss_cons (h1 : HS X st t) (h2 : HSs X rest u) : HSs X (st :: rest) (tSeq3 t u) := fun D ρ M h =>
 (pss_cons h1.d h2.d).imp fun D2 σ H ⟨hr, hh, en⟩ => ⟨{ D with nx := u D }, ρ, M, h, hr, hh, en.nx'⟩
theorem ss_one (h1 : HS X st t) : HSs X [st] t := fun D ρ M h => pss_one (h1 D ρ M h)
noncomputable def tRet3 (te : TE3) : TS3 := fun D ρ M => te ρ M D.rt
theorem s_ret (he : HE X e te) : HS X (.Return (some e) pos) (tRet3 te) := fun D ρ M h =>
 (ps_ret (he.d (ρ := ρ))).imp fun D2 σ H ⟨hr, hh, en⟩ => ⟨M, _, h, hr, hh, en.rt⟩
noncomputable def tIfS3 (c : TT3) (t u : TS3) : TS3 := fun D ρ M => c ρ M fun b M1 => if b = true then t D ρ M1 else u D ρ M1
theorem s_if (hc : HT X c tA) (ha : HSs X ba t) (hb : HSs X bb u) : HS X (.If c ba bb pos) (tIfS3 tA t u) := fun D ρ M h =>
 (ps_if (hc.d (ρ := ρ)) ha.d hb.d).imp fun D2 σ H ⟨hr, hh, en⟩ => ⟨M, _, h, hr, hh, fun b M1 H1 k1 h1 q1 => by
   dsimp only at q1 ⊢
   split
   · rename_i hb; rw [if_pos hb] at q1
     exact ⟨D, ρ, M1, q1, hr.kp k1, h1, en.kp k1⟩
   · rename_i hb; rw [if_neg hb] at q1
     exact ⟨D, ρ, M1, q1, hr.kp k1, h1, en.kp k1⟩⟩
noncomputable def tDrop3 (te : TE3) : TS3 := fun D ρ M => te ρ M fun _ M1 => D.nx ρ M1
theorem s_expr (he : HE X e te) (hs : swapsWith e none pos.line X.env = pure false := by rfl) : HS X (.Expr e pos) (tDrop3 te) := fun D ρ M h =>
 (ps_expr (he.d (ρ := ρ)) hs).imp fun D2 σ H ⟨hr, hh, en⟩ => ⟨M, _, h, hr, hh, fun x v M1 H1 k1 h1 r1 q1 => en.nx ρ M1 σ H1 k1 (hr.kp k1) h1 q1⟩
noncomputable def tBreak3 : TS3 := fun D ρ M => D.bk ρ M
theorem s_break : HS X (.Break pos) tBreak3 := fun D ρ M h => ps_break.imp fun D2 σ H ⟨hr, hh, en⟩ => en.bk ρ M σ H Kp.refl hr hh h
noncomputable def tSet3 (i : Nat) (te : TE3) : TS3 := fun D ρ M => te ρ M fun x M1 => D.nx (ρ.set i (some x)) M1
theorem s_set {i : Nat} {x : Str} {pos' : Pos} (he : HE X e te) (hN : X.N.Nodup) (hi : X.N[i]? = some x := by rfl) (hx : Loc X.env.scope x := by first | exact Or.inl rfl | exact Or.inr rfl) (hs : swapsWith e (some (.Name x pos')) pos.line X.env = pure false := by rfl)
   (hf : X.fn x = true ∨ X.env.scope.names.lookup x = some .local := by first | exact .inl rfl | exact .inr rfl | assumption) : HS X (.Assign [.Name x pos'] e pos) (tSet3 i te) := fun D ρ M h =>
 (ps_set hN hi hx (he.d (ρ := ρ)) hs hf).imp fun D2 σ H ⟨hr, hh, en⟩ => ⟨M, _, h, hr, hh, fun t v M1 H1 k1 h1 r1 q1 => en.nx _ M1 _ H1 k1 ((hr.kp k1).set i r1) h1 q1⟩
noncomputable abbrev TG3 := T → En → MH → (En → MH → Prop) → Prop
noncomputable def EndG (K : PySem.W.Frag) (H : Hp) (Q : En → MH → Prop) (Q2 : St → Hp → Prop) : Prop := ∀ ρ' M' σ' H', Kp K H H' → RhoR K σ' H' ρ' → HR K H' M' → Q ρ' M' → Q2 σ' H'
noncomputable def dG (K : PySem.W.Frag) (g : TG3) : TG := fun v σ H Q2 => ∃ t ρ M Q, g t ρ M Q ∧ Rep K H v t ∧ RhoR K σ H ρ ∧ HR K H M ∧ EndG K H Q Q2
noncomputable def HG (X : Cx) (tg : Expr) (g : TG3) : Prop := PG X tg (dG X.K g)
noncomputable def gName3 (i : Nat) : TG3 := fun t ρ M Q => Q (ρ.set i (some t)) M
theorem PG.imp {tg : Expr} {g g' : TG} (h : PG X tg g) (f : ∀ v σ H Q, g' v σ H Q → g v σ H Q) : PG X tg g' := fun pins s σ H v u Q I r q => h pins s σ H v u Q I r (f v σ H Q q)
theorem g_name {i : Nat} {x : Str} (hN : X.N.Nodup) (hi : X.N[i]? = some x := by rfl) (hx : Loc X.env.scope x := by first | exact Or.inl rfl | exact Or.inr rfl) (hf : X.fn x = true ∨ X.env.scope.names.lookup x = some .local := by first | exact .inl rfl | exact .inr rfl | assumption) : HG X (.Name x pos) (gName3 i) :=
 (pg_name hN hi hx hf).imp fun v σ H Q2 ⟨t, ρ, M, Q, q, r, hr, hh, en⟩ => en _ M _ H Kp.refl (hr.set i r) hh q
noncomputable def gSub3 (to ti : TE3) : TG3 := fun v ρ M Q => to ρ M fun o M1 => ti ρ M1 fun i M2 => match o, i with
 | .adr p, .int k => (match M2 p with
   | some (.lst ts) => (match ixN ts.length k with | some j => Q ρ (updM M2 p (.lst (ts.set j v))) | none => False)
   | _ => False)
 | _, _ => False
theorem g_sub {o i : Expr} {to ti : TE3} (ho : HE X o to) (hi : HE X i ti)
   (ha : ∀ v, assign (.Subscript o i pos) X.env v = (do
     let ov ← holding [v] (eval o X.env)
     let iv ← holding [v, ov] (eval i X.env)
     standAt pos
     holding [v, ov, iv] (setItem ov iv v)
     release [v, ov, iv] []) := by intro _; rfl) : HG X (.Subscript o i pos) (gSub3 to ti) := by
 intro pins s σ H v u Q2 I r h
 obtain ⟨t, ρ, M, Q, q, rt, hr, hh, en⟩ := h
 refine pg_sub (ho.d (ρ := ρ)) (hi.d (ρ := ρ)) set_list ha pins s σ H v u Q2 I r ?_
 refine ⟨M, _, q, hr, hh, fun ot ov M1 H1 k1 h1 r1 q1 => ⟨M1, _, q1, hr.kp k1, h1, fun it iv M2 H2 k2 h2 r2 q2 => ?_⟩⟩
 dsimp only at q2
 split at q2
 · obtain rfl := inv_adr r1
   obtain rfl := inv_int r2
   split at q2
   · rename_i ts e0
     obtain ⟨xs, g1, g2⟩ := h2 _ _ e0
     split at q2
     · rename_i j ej
       have kk := k1.trans k2
       refine ⟨_, xs, _, j, rfl, rfl, g1, by rw [g2.length]; exact ej, en _ _ σ _ (kk.trans (Kp.lst g1)) (hr.kp (kk.trans (Kp.lst g1))) (h2.setL g1 (g2.set (Rep.kp kk _ _ rt) j)) q2⟩
     · exact q2.elim
   · exact q2.elim
 · exact q2.elim
noncomputable def tAsg3 (te : TE3) (g : TG3) : TS3 := fun D ρ M => te ρ M fun x M1 => g x ρ M1 D.nx
theorem s_asg {tg : Expr} {g : TG3} (he : HE X e te) (hg : HG X tg g) (hs : swapsWithSole [tg] e pos.line X.env = pure false := by rfl) (hw : swappedStores [tg] e X.env = pure none := by rfl)
   (h1 : (assignEach [tg] X.env).map (·.2) = [assign tg X.env] := by rfl) : HS X (.Assign [tg] e pos) (tAsg3 te g) := fun D ρ M h =>
 (ps_asg (he.d (ρ := ρ)) hg hs hw h1).imp fun D2 σ H ⟨hr, hh, en⟩ => ⟨M, _, h, hr, hh, fun t v M1 H1 k1 h1 r1 q1 => ⟨t, ρ, M1, D.nx, q1, r1, hr.kp k1, h1, fun ρ' M' σ' H' k r hh' q => en.nx ρ' M' σ' H' (k1.trans k) r hh' q⟩⟩
structure It3 where
 items : List T
 stay : MH → Prop := fun _ => True
noncomputable abbrev TI3 := En → MH → (It3 → MH → Prop) → Prop
structure ItOk (K : PySem.W.Frag) (H : Hp) (J2 : It) (J : It3) : Prop where
 stop : ∀ H' M', Kp K H H' → HR K H' M' → J.stay M' → J2.stop J.items.length H'
 go : ∀ (i : Nat) (x : T) H' M', J.items[i]? = some x → Kp K H H' → HR K H' M' → J.stay M' → J2.go i H' ∧ ∀ v H'', J2.yld i H' v H'' → Kp K H' H'' ∧ HR K H'' M' ∧ Rep K H'' v x
noncomputable def HI (X : Cx) (tg iter : Expr) (wi : TI3) : Prop := ∀ ρ M R, wi ρ M R → PI X tg iter (fun σ H R2 => RhoR X.K σ H ρ ∧ HR X.K H M ∧ ∀ J J2 M' H', Kp X.K H H' → HR X.K H' M' → ItOk X.K H' J2 J → R J M' → R2 J2 H')
noncomputable def dI (K : PySem.W.Frag) (ρ : En) (wi : TI3) : TI := fun σ H R2 => ∃ M R, wi ρ M R ∧ RhoR K σ H ρ ∧ HR K H M ∧ ∀ J J2 M' H', Kp K H H' → HR K H' M' → ItOk K H' J2 J → R J M' → R2 J2 H'
theorem HI.d {tg iter : Expr} {wi : TI3} {ρ : En} (h : HI X tg iter wi) : PI X tg iter (dI X.K ρ wi) := fun pins s σ H R I ⟨M, R3, q, b⟩ => h ρ M R3 q pins s σ H R I b
theorem PI.imp {tg iter : Expr} {w w' : TI} (h : PI X tg iter w) (f : ∀ σ H R, w' σ H R → w σ H R) : PI X tg iter w' := fun pins s σ H R I q => h pins s σ H R I (f σ H R q)
noncomputable def iSeq3 (tl : TE3) : TI3 := fun ρ M R => tl ρ M fun x M1 => match x with
 | .tup ts => R ⟨ts, fun _ => True⟩ M1
 | .adr p => (match M1 p with | some (.lst ts) => R ⟨ts, fun M' => M' p = some (.lst ts)⟩ M1 | _ => False)
 | _ => False
theorem itok_tup {K : PySem.W.Frag} {H : Hp} {a : Addr} {xs : List V} {ts : List T} (h : SqT K H a xs) (r : Reps K H xs ts) : ItOk K H (Itt K a) ⟨ts, fun _ => True⟩ := by
 refine ⟨fun H' M' k hh _ => ⟨xs, k.tup _ _ h, by rw [r.length]; exact Nat.le_refl _⟩, fun i x H' M' e k hh _ => ?_⟩
 obtain ⟨v, e1, r1⟩ := r.get e
 refine ⟨⟨xs, v, k.tup _ _ h, e1⟩, fun v' H'' y => ?_⟩
 obtain ⟨rfl, y⟩ := y
 have := y xs (k.tup _ _ h)
 rw [e1] at this; cases this
 exact ⟨Kp.refl, hh, Rep.kp k _ _ r1⟩
theorem itok_lst {K : PySem.W.Frag} {H : Hp} {a : Addr} {ts : List T} : ItOk K H (Itl K a) ⟨ts, fun M' => M' a = some (.lst ts)⟩ := by
 refine ⟨fun H' M' k hh st => ?_, fun i x H' M' e k hh st => ?_⟩
 · obtain ⟨xs, g1, g2⟩ := hh _ _ st
   exact ⟨xs, SqL.of g1, by rw [g2.length]; exact Nat.le_refl _⟩
 · obtain ⟨xs, g1, g2⟩ := hh _ _ st
   obtain ⟨v, e1, r1⟩ := g2.get e
   refine ⟨⟨xs, v, SqL.of g1, e1⟩, fun v' H'' y => ?_⟩
   obtain ⟨rfl, y⟩ := y
   have := y xs (SqL.of g1)
   rw [e1] at this; cases this
   exact ⟨Kp.refl, hh, r1⟩
noncomputable def rangeT (lo : Int) (n : Nat) : List T := (List.range n).map fun i => T.int (lo + (i : Nat))
theorem itok_range {K : PySem.W.Frag} {H : Hp} {lo : Int} {n : Nat} : ItOk K H (Itr lo n) ⟨rangeT lo n, fun _ => True⟩ := by
 have hl : (rangeT lo n).length = n := by unfold rangeT; simp
 refine ⟨fun H' M' k hh _ => by show n ≤ (rangeT lo n).length; rw [hl]; exact Nat.le_refl _, fun i x H' M' e k hh _ => ?_⟩
 have hi : i < n := by have := (List.getElem?_eq_some_iff.mp e).1; rwa [hl] at this
 have ex : x = .int (lo + (i : Nat)) := by
   unfold rangeT at e
   rw [List.getElem?_map, List.getElem?_range hi] at e
   exact (Option.some.inj e).symm
 subst ex
 refine ⟨hi, fun v H'' y => ?_⟩
 obtain ⟨rfl, rfl⟩ := y
 exact ⟨Kp.refl, hh, rep_int⟩
theorem i_seq {tg l : Expr} {tl : TE3} (hl : HE X l tl) : HI X tg l (iSeq3 tl) := by
 intro ρ M R h pins s σ H R2 I b
 obtain ⟨hr, hh, en⟩ := b
 refine thn (hl ρ M _ h pins s σ H (fun v H1 => ∃ t M1, Kp X.K H H1 ∧ HR X.K H1 M1 ∧ Rep X.K H1 v t ∧ (match t with
   | .tup ts => R ⟨ts, fun _ => True⟩ M1
   | .adr p => (match M1 p with | some (.lst ts) => R ⟨ts, fun M' => M' p = some (.lst ts)⟩ M1 | _ => False)
   | _ => False)) I ⟨hr, hh, fun t v M1 H1 k1 h1 r1 q1 => ⟨t, M1, k1, h1, r1, q1⟩⟩) fun v s1 ⟨x, H1, I1, rv, t, M1, k1, h1, r1, q1⟩ => ?_
 split at q1
 · rename_i ts
   obtain ⟨a, xs, rfl, g1, g2⟩ := inv_tup r1
   cases rv
   obtain ⟨its, rv, p, hz⟩ := I1.tuple g1
   refine wpAny_pyIter_tuple (show s1.heap.IsTuple a its.toArray from p) ?_
   refine ⟨s1.heap.objs.size, [s1.heap.objs.size], _, _, H1, rfl, I1.kept (t' := s1.toks) fun b o e => Heap.get?_push_of_some _ e, turn_tuple a _, ⟨_, Heap.get?_push_size _ rfl, rfl, rfl⟩, fun b hb => ?_, en _ _ M1 H1 k1 h1 (itok_tup g1 g2) q1⟩
   have e : b = s1.heap.objs.size := by simpa using hb
   subst e
   exact I1.fpOk (Nat.le_refl _) (I1.hok.fresh (Nat.le_refl _))
 · rename_i a
   obtain rfl := inv_adr r1
   cases rv
   split at q1
   · rename_i ts e0
     obtain ⟨xs, g1, g2⟩ := h1 _ _ e0
     obtain ⟨its, rv, p, hz⟩ := I1.list (SqL.of g1)
     refine wpAny_pyIter_list p.isList ?_
     refine ⟨s1.heap.objs.size, [s1.heap.objs.size], _, _, H1, rfl, I1.kept (t' := s1.toks) fun b o e => Heap.get?_push_of_some _ e, turn_list a _, ⟨_, Heap.get?_push_size _ rfl, rfl, rfl⟩, fun b hb => ?_, en _ _ M1 H1 k1 h1 itok_lst q1⟩
     have e : b = s1.heap.objs.size := by simpa using hb
     subst e
     exact I1.fpOk (Nat.le_refl _) (I1.hok.fresh (Nat.le_refl _))
   · exact q1.elim
 · exact q1.elim
noncomputable def iRng1_3 (t : TA3) : TI3 := fun ρ M R => t ρ M fun xs M1 => match xs with
 | [.int j] => -(2 ^ 62) ≤ j ∧ j < 2 ^ 62 ∧ R ⟨rangeT 0 j.toNat, fun _ => True⟩ M1
 | _ => False
noncomputable def iRng2_3 (t : TA3) : TI3 := fun ρ M R => t ρ M fun xs M1 => match xs with
 | [.int i, .int j] => (-(2 ^ 62) ≤ i ∧ i < 2 ^ 62 ∧ -(2 ^ 62) ≤ j ∧ j < 2 ^ 62) ∧ R ⟨rangeT i (j - i).toNat, fun _ => True⟩ M1
 | _ => False
theorem i_range1 {tg : Expr} {t : TA3} {p : Pos} (hm : X.mg "range" = none) (ha : HA X [a] t) (hg : Gl X "range" := by rfl) (hs : starEach [a] X.env = [(false, eval a X.env)] := by rfl) : HI X tg (.Call (.Name "range" p) [a] [] pos) (iRng1_3 t) := fun ρ M R h =>
 (pi_range1 hg hm (ha.d (ρ := ρ)) hs).imp fun σ H R2 ⟨hr, hh, en⟩ => ⟨M, _, h, hr, hh, fun ts vs M1 H1 k1 h1 r1 q1 => by
   dsimp only at q1
   split at q1
   · rename_i j
     obtain ⟨v, rfl, rv⟩ := reps1 r1
     obtain rfl := inv_int rv
     exact ⟨j, rfl, q1.1, q1.2.1, en _ _ M1 H1 k1 h1 itok_range q1.2.2⟩
   · exact q1.elim⟩
theorem i_range2 {tg : Expr} {t : TA3} {p : Pos} (hm : X.mg "range" = none) (ha : HA X [a, b] t) (hg : Gl X "range" := by rfl) (hs : starEach [a, b] X.env = [(false, eval a X.env), (false, eval b X.env)] := by rfl) (hs2 : starEach [b] X.env = [(false, eval b X.env)] := by rfl) : HI X tg (.Call (.Name "range" p) [a, b] [] pos) (iRng2_3 t) := fun ρ M R h =>
 (pi_range2 hg hm (ha.d (ρ := ρ)) hs hs2).imp fun σ H R2 ⟨hr, hh, en⟩ => ⟨M, _, h, hr, hh, fun ts vs M1 H1 k1 h1 r1 q1 => by
   dsimp only at q1
   split at q1
   · rename_i i j
     obtain ⟨v, w', rfl, rv, rw'⟩ := reps2 r1
     obtain rfl := inv_int rv
     obtain rfl := inv_int rw'
     exact ⟨i, j, rfl, q1.1, en _ _ M1 H1 k1 h1 itok_range q1.2⟩
   · exact q1.elim⟩
noncomputable def tFor3 (wi : TI3) (g : TG3) (tb : TS3) : TS3 := fun D ρ M => wi ρ M fun J M1 => ∃ W : Nat → En → MH → Prop, W 0 ρ M1 ∧ (∀ i ρ M, W i ρ M → J.stay M) ∧
 (∀ i x ρ M, J.items[i]? = some x → W i ρ M → g x ρ M fun ρ2 M2 => tb { D with nx := W (i + 1), ct := W (i + 1), bk := D.nx } ρ2 M2) ∧ ∀ ρ M, W J.items.length ρ M → D.nx ρ M
theorem s_for {tg iter : Expr} {wi : TI3} {g : TG3} {tb : TS3} (hp : PassesOwn (model X.prog X.w) X.A X.env X.xe) (hc : X.calm = true) (hi : HI X tg iter wi) (hg : HG X tg g) (hb : HSs X body tb)
   (hs : ∀ x, foldedSetIterable iter X.env x = pure x := by intro _; rfl) : HS X (.For tg iter body [] pos) (tFor3 wi g tb) := fun D ρ0 M0 h =>
 (ps_for hp hc (hi.d (ρ := ρ0)) hg hb.d hs).imp fun D2 σ0 H0 ⟨hr0, hh0, en⟩ => ⟨M0, _, h, hr0, hh0, fun J J2 M1 H1 k1 h1 ok q1 => by
   obtain ⟨W, w0, wst, turn, fin⟩ := q1
   refine ⟨fun i m σ H => m = J.items.length - i ∧ i ≤ J.items.length ∧ Kp X.K H1 H ∧ ∃ ρ M, RhoR X.K σ H ρ ∧ HR X.K H M ∧ W i ρ M, ⟨_, rfl, Nat.zero_le _, Kp.refl, ρ0, M1, hr0.kp k1, h1, w0⟩, ?_⟩
   rintro i m σ H ⟨rfl, hi, kk, ρ, M, hr, hh, w⟩
   have st := wst i ρ M w
   by_cases hlt : i < J.items.length
   · have e : J.items[i]? = some J.items[i] := List.getElem?_eq_getElem hlt
     obtain ⟨go, yl⟩ := ok.go i _ H M e kk hh st
     refine .inr ⟨go, fun σ' H' => i + 1 ≤ J.items.length ∧ Kp X.K H1 H' ∧ ∃ ρ M, RhoR X.K σ' H' ρ ∧ HR X.K H' M ∧ W (i + 1) ρ M, fun σ' H' ⟨a, b, c⟩ => ⟨_, by lia, rfl, a, b, c⟩, fun v H' y => ?_⟩
     obtain ⟨k2, h2, r2⟩ := yl v H' y
     refine ⟨J.items[i], ρ, M, _, turn i _ ρ M e w, r2, hr.kp k2, h2, fun ρ3 M3 σ3 H3 k3 hr3 hh3 q3 => ⟨_, ρ3, M3, q3, hr3, hh3, ?_⟩⟩
     have kall := kk.trans (k2.trans k3)
     refine ⟨fun ρ4 M4 σ4 H4 k4 hr4 hh4 q4 => ⟨hlt, kall.trans k4, ρ4, M4, hr4, hh4, q4⟩, fun t v M4 H4 k4 h4 r4 q4 => en.rt t v M4 H4 (k1.trans (kall.trans k4)) h4 r4 q4, fun ρ4 M4 σ4 H4 k4 hr4 hh4 q4 => en.nx ρ4 M4 σ4 H4 (k1.trans (kall.trans k4)) hr4 hh4 q4, fun ρ4 M4 σ4 H4 k4 hr4 hh4 q4 => ⟨hlt, kall.trans k4, ρ4, M4, hr4, hh4, q4⟩⟩
   · have e : i = J.items.length := by lia
     subst e
     exact .inl ⟨ok.stop H M kk hh st, en.nx ρ M σ H (k1.trans kk) hr hh (fin ρ M w)⟩⟩
noncomputable def tWhile3 (c : TT3) (tb : TS3) : TS3 := fun D ρ M => ∃ W : Nat → En → MH → Prop, (∃ m, W m ρ M) ∧ ∀ m ρ M, W m ρ M →
 c ρ M fun b M1 => if b = true then tb { D with nx := fun ρ' M' => ∃ m', m' < m ∧ W m' ρ' M', ct := fun ρ' M' => ∃ m', m' < m ∧ W m' ρ' M', bk := D.nx } ρ M1 else D.nx ρ M1
theorem s_while {c : Expr} {tc : TT3} {tb : TS3} (hp : PassesOwn (model X.prog X.w) X.A X.env X.xe) (hc : HT X c tc) (hb : HSs X body tb) : HS X (.While c body [] pos) (tWhile3 tc tb) := by
 intro D ρ0 M0 h pins s σ H D2 I b
 obtain ⟨hr0, hh0, en⟩ := b
 obtain ⟨W, ⟨m0, w0⟩, turn⟩ := h
 refine wpAny_While (codeAny_whileLoop (fun n s' => ∃ σ' H' ρ M, Inv X pins σ' H' s' ∧ Kp X.K H H' ∧ RhoR X.K σ' H' ρ ∧ HR X.K H' M ∧ W n ρ M) ?_ m0 ⟨σ, H, ρ0, M0, I, Kp.refl, hr0, hh0, w0⟩)
 rintro n s1 ⟨σ1, H1, ρ, M, I1, k1, hr, hh, w1⟩
 refine wpAny_passesOwn hp (thn (hc ρ M _ (turn n ρ M w1) pins s1 σ1 H1 (fun b H2 => ∃ M2, Kp X.K H1 H2 ∧ HR X.K H2 M2 ∧ (if b = true then tb { D with nx := fun ρ' M' => ∃ m', m' < n ∧ W m' ρ' M', ct := fun ρ' M' => ∃ m', m' < n ∧ W m' ρ' M', bk := D.nx } ρ M2 else D.nx ρ M2)) I1 ⟨hr, hh, fun b M2 H2 k2 h2 q2 => ⟨M2, k2, h2, q2⟩⟩) fun b s2 ⟨H2, I2, M2, k2, h2, q2⟩ => ?_)
 have kk := k1.trans k2
 cases b with
 | true =>
   rw [if_pos rfl] at q2
   rw [if_pos rfl]
   refine wpAny_passesOwn hp (thn (hb _ ρ M2 q2 pins s2 σ1 H2 { nx := fun σ' H' => ∃ ρ' M', Kp X.K H2 H' ∧ RhoR X.K σ' H' ρ' ∧ HR X.K H' M' ∧ ∃ m', m' < n ∧ W m' ρ' M', rt := D2.rt, bk := D2.nx, ct := fun σ' H' => ∃ ρ' M', Kp X.K H2 H' ∧ RhoR X.K σ' H' ρ' ∧ HR X.K H' M' ∧ ∃ m', m' < n ∧ W m' ρ' M' } I2
     ⟨hr.kp k2, h2, ⟨fun ρ' M' σ' H' k r hh' q => ⟨ρ', M', k, r, hh', q⟩, en.rt.kp kk, fun ρ' M' σ' H' k r hh' q => en.nx ρ' M' σ' H' (kk.trans k) r hh' q, fun ρ' M' σ' H' k r hh' q => ⟨ρ', M', k, r, hh', q⟩⟩⟩) fun f s3 q3 => ?_)
   cases f with
   | next =>
     obtain ⟨σ3, H3, I3, ρ', M', k3, r3, h3, m', hm, w3⟩ := q3
     exact ⟨m', hm, σ3, H3, ρ', M', I3, kk.trans k3, r3, h3, w3⟩
   | cont =>
     obtain ⟨σ3, H3, I3, ρ', M', k3, r3, h3, m', hm, w3⟩ := q3
     exact ⟨m', hm, σ3, H3, ρ', M', I3, kk.trans k3, r3, h3, w3⟩
   | brk => exact q3
   | ret v => exact q3
 | false =>
   rw [if_neg Bool.false_ne_true] at q2
   rw [if_neg Bool.false_ne_true]
   exact wpAny_execs_nil ⟨σ1, H2, I2, en.nx ρ M2 σ1 H2 kk (hr.kp k2) h2 q2⟩
noncomputable def pick3 (ix : List (Option Nat)) (ρ : En) : En := ix.map fun o => match o with | some j => (ρ[j]?).join | none => none
theorem rho_pick {K : PySem.W.Frag} {σ : St} {H : Hp} {ρ : En} (ix : List (Option Nat)) (h : RhoR K σ H ρ) : RhoR K (pick ix σ) H (pick3 ix ρ) := by
 refine ⟨by unfold pick pick3; simp, fun i t e => ?_⟩
 unfold pick3 at e
 unfold pick
 rw [List.getElem?_map] at e ⊢
 cases hx : ix[i]? with
 | none => rw [hx] at e; cases e
 | some o =>
   rw [hx] at e
   cases o with
   | none =>
     have e' : (none : Option T) = some t := Option.some.inj e
     cases e'
   | some j =>
     have e' : (ρ[j]?).join = some t := Option.some.inj e
     cases hj : ρ[j]? with
     | none => rw [hj] at e'; cases e'
     | some u =>
       rw [hj] at e'
       have e2 : u = some t := e'
       subst e2
       obtain ⟨v, a, b⟩ := h.2 j t hj
       exact ⟨v, by show some ((σ[j]?).join) = some (some v); rw [a] <;> rfl, b⟩
noncomputable def tComp3 (wi : TI3) (ix : List (Option Nat)) (g : TG3) (tt : TT3) (te : TE3) : TE3 := fun ρ M Q => wi ρ M fun J M1 => ∃ W : Nat → List T → MH → Prop, W 0 [] M1 ∧ (∀ i ys M, W i ys M → J.stay M) ∧ J.items.length < sizeLine ∧
 (∀ i x ys M, J.items[i]? = some x → W i ys M → g x (pick3 ix ρ) M fun ρ2 M2 => tt ρ2 M2 fun ok M3 => if ok = true then te ρ2 M3 fun y M4 => W (i + 1) (ys ++ [y]) M4 else W (i + 1) ys M3) ∧
 ∀ ys M, W J.items.length ys M → ∀ p, M p = none → Q (.adr p) (updM M p (.lst ys))
noncomputable def HTs (X : Cx) (ifs : List Expr) (t : TT3) : Prop := ∀ ρ M Q, t ρ M Q → PTs X ifs (bT X.K ρ M Q)
noncomputable def tYes3 : TT3 := fun _ M Q => Q true M
theorem ts_nil : HTs X [] tYes3 := fun ρ M Q h pins s σ H Q2 I ⟨hr, hh, en⟩ => pts_nil pins s σ H Q2 I (en true M H Kp.refl hh h)
theorem ts_one {c : Expr} {t : TT3} (h : HT X c t) : HTs X [c] t := fun ρ M Q q => pts_one (h ρ M Q q)
end
end L2
namespace L2
open PySem PySem.Spec PyProof.Rows
noncomputable def dEx (K : PySem.W.Frag) (t : TE3) : TE := fun σ H Q2 => ∃ ρ M Q, t ρ M Q ∧ bE K ρ M Q σ H Q2
noncomputable def dTx (K : PySem.W.Frag) (t : TT3) : TT := fun σ H Q2 => ∃ ρ M Q, t ρ M Q ∧ bT K ρ M Q σ H Q2
section
variable {X : Cx} {e : Expr}
theorem HE.dx {t : TE3} (h : HE X e t) : PE X e (dEx X.K t) := fun pins s σ H Q I ⟨ρ, M, Q3, q, b⟩ => h ρ M Q3 q pins s σ H Q I b
theorem HTs.dx {ifs : List Expr} {t : TT3} (h : HTs X ifs t) : PTs X ifs (dTx X.K t) := fun pins s σ H Q I ⟨ρ, M, Q3, q, b⟩ => h ρ M Q3 q pins s σ H Q I b
structure BTg (K : PySem.W.Frag) (ix : List (Option Nat)) (g2 : TG) (g3 : TG3) : Prop where
 own : Own ix g2
 br : ∀ (t : T) (v : V) (ρ : En) (M : MH) (σ : St) (H : Hp) (Q3 : En → MH → Prop) (Q2 : St → Hp → Prop), Rep K H v t → RhoR K σ H ρ → HR K H M → g3 t ρ M Q3 → EndG K H Q3 Q2 → g2 v σ H Q2
theorem bt_name {K : PySem.W.Frag} {ix : List (Option Nat)} {i : Nat} (h : ix[i]? = some none := by rfl) : BTg K ix (gName i) (gName3 i) :=
 ⟨own_name h, fun t v ρ M σ H Q3 Q2 r hr hh q en => en _ M _ H Kp.refl (hr.set i r) hh q⟩
variable {elt iter tg : Expr} {ifs : List Expr} {pos : Pos} {scope : Scope} {N' : List Str} {ix : List (Option Nat)} {wi : TI3} {g2 : TG} {g3 : TG3} {tt : TT3} {te : TE3}
theorem comp_red {X : Cx} {N' : List Str} {ix : List (Option Nat)} {wi : TI3} {g2 : TG} {g3 : TG3} {tt : TT3} {te : TE3} (bt : BTg X.K ix g2 g3) (ρ0 : En) (M0 : MH) (Q : VK3) (h : tComp3 wi ix g3 tt te ρ0 M0 Q) (σ0 : St) (H0 : Hp) (Q2 : VK) (bb : bE X.K ρ0 M0 Q σ0 H0 Q2) :
   tComp (dI X.K ρ0 wi) ix g2 (dTx X.K tt) (dEx X.K te) σ0 H0 Q2 := by
 obtain ⟨hr0, hh0, en⟩ := bb
 exact ⟨M0, _, h, hr0, hh0, fun J J2 M1 H1 k1 h1 ok q1 => by
   obtain ⟨W, w0, wst, hsz, turn, fin⟩ := q1
   refine ⟨fun i m ys H => m = J.items.length - i ∧ i ≤ J.items.length ∧ ys.length ≤ i ∧ Kp X.K H1 H ∧ ∃ ts M, Reps X.K H ys ts ∧ HR X.K H M ∧ W i ts M, ⟨_, rfl, Nat.zero_le _, Nat.zero_le _, Kp.refl, [], M1, .nil, h1, w0⟩, ?_⟩
   rintro i m ys H ⟨rfl, hi, hy, kk, ts, M, rts, hh, w⟩
   have st := wst i ts M w
   by_cases hlt : i < J.items.length
   · have e : J.items[i]? = some J.items[i] := List.getElem?_eq_getElem hlt
     obtain ⟨go, yl⟩ := ok.go i _ H M e kk hh st
     refine .inr ⟨go, by lia, fun v H' y => ?_⟩
     obtain ⟨k2, h2, r2⟩ := yl v H' y
     have kk2 := kk.trans k2
     refine bt.br J.items[i] v _ M _ H' _ _ r2 (rho_pick ix (hr0.kp (k1.trans kk2))) h2 (turn i _ ts M e w) fun ρ3 M3 σ3 H3 k3 hr3 hh3 q3 => ⟨ρ3, M3, _, q3, hr3, hh3, fun b M4 H4 k4 h4 q4 => ?_⟩
     have kk4 := kk2.trans (k3.trans k4)
     dsimp only at q4 ⊢
     cases b with
     | true =>
       rw [if_pos rfl] at q4 ⊢
       refine ⟨ρ3, M4, _, q4, hr3.kp k4, h4, fun t5 v5 M5 H5 k5 h5 r5 q5 => ⟨_, Nat.sub_lt_sub_left hlt (Nat.lt_succ_self i), rfl, hlt, ?_, kk4.trans k5, ts ++ [t5], M5, ?_, h5, q5⟩⟩
       · rw [List.length_append, List.length_singleton]; lia
       · exact (Reps.kp (k2.trans (k3.trans (k4.trans k5))) _ _ rts).append (.cons r5 .nil)
     | false =>
       rw [if_neg Bool.false_ne_true] at q4 ⊢
       exact ⟨_, Nat.sub_lt_sub_left hlt (Nat.lt_succ_self i), rfl, hlt, by lia, kk4, ts, M4, Reps.kp (k2.trans (k3.trans k4)) _ _ rts, h4, q4⟩
   · have e : i = J.items.length := by lia
     subst e
     refine .inl ⟨ok.stop H M kk hh st, by lia, fun p hp => ?_⟩
     exact en _ _ _ _ (k1.trans (kk.trans (Kp.new hp))) (hh.newL hp rts) rep_adr (fin ts M w p (hh.free hp))⟩
theorem h_comp (hc : X.calm = true) (hi : HI X tg iter wi) (S : BlkScope X N' ix scope) (bt : BTg X.K ix g2 g3) (hg : ∀ C s H fp pins, PG (blk X N' scope C s H fp pins) tg g2)
   (ht : ∀ C s H fp pins, HTs (blk X N' scope C s H fp pins) ifs tt) (he : ∀ C s H fp pins, HE (blk X N' scope C s H fp pins) elt te)
   (hs : ∀ x, foldedSetIterable iter X.env x = pure x := by intro _; rfl) :
   HE X (.ListComp elt [⟨tg, iter, ifs, 0⟩] scope pos) (tComp3 wi ix g3 tt te) := fun ρ0 M0 Q h =>
 (pe_comp (tt := dTx X.K tt) (te := dEx X.K te) hc (hi.d (ρ := ρ0)) S bt.own hg (fun C s H fp pins => (ht C s H fp pins).dx) (fun C s H fp pins => (he C s H fp pins).dx) hs).imp fun σ0 H0 Q2 bb => comp_red (X := X) (N' := N') bt ρ0 M0 Q h σ0 H0 Q2 bb
noncomputable def start3 (N : List Str) (ts : List T) : En := ts.map some ++ List.replicate (N.length - ts.length) none
theorem rho_start {K : PySem.W.Frag} {H : Hp} {N : List Str} {vs : List V} {ts : List T} (r : Reps K H vs ts) : RhoR K (start N vs) H (start3 N ts) := by
 have hl := r.length
 refine ⟨by unfold start start3; simp [hl], fun i t e => ?_⟩
 unfold start3 at e
 unfold start
 by_cases hi : i < ts.length
 · rw [List.getElem?_append_left (by simpa using hi), List.getElem?_map] at e
   cases q : ts[i]? with
   | none => rw [q] at e; cases e
   | some u =>
     rw [q] at e
     cases e
     obtain ⟨v, a, b⟩ := r.get q
     refine ⟨v, ?_, b⟩
     rw [List.getElem?_append_left (by simpa [hl] using hi), List.getElem?_map, a]
     rfl
 · rw [List.getElem?_append_right (by simpa using hi), List.getElem?_replicate] at e
   split at e <;> cases e
noncomputable def rt3 (M : MH) (Q : VK3) : VK3 := fun t M' => ∃ M0, Sub M0 M' ∧ Q t M0
end
section
variable {P : Program} {w : World} {K : PySem.W.Frag} {mg : Str → Option Value} {base : Heap}
theorem Fun.fnk {x qual : Str} {st : Stmt} {f : Addr} {fd : FuncData} {N ps : List Str} {n : Nat} {sp : Sp3} (F : Fun K x qual st f fd) (S : FnScope N ps (defScope st)) (len : ∀ ts M Q, sp ts M Q → ts.length = ps.length)
   (hbody : ∃ t : TS3, (∀ (cdv : Value) (A : Around) (outer : List Env) (s : Shared) (H : Hp) (E : XK), Room n (A.deeper (envOfC qual (defScope st) s.heap.objs.size f cdv)) →
     HSs (cxOf CX0 P w K mg base N qual (defScope st) f cdv A outer s H E).nox (defBody st) t) ∧
     ∀ ts M Q, sp ts M Q → t { nx := fun _ M' => rt3 M Q .non M', rt := rt3 M Q } (start3 N ts) M) : FnOk P w K mg base CX0 (n + 1) f fd ps (dSp K sp) := by
 obtain ⟨t, hbody, rd⟩ := hbody
 refine F.ok S (fun vs H Q E ⟨ts, M, Q3, r, _, q, _⟩ => by rw [r.length]; exact len _ _ _ q) (fun cdv A outer s H vs Q E hr ⟨ts, M, Q3, r, hh, q, en⟩ => ?_)
 refine ⟨_, hbody cdv A outer s H E hr _ _ _ (rd ts M Q3 q), rho_start r, hh, ⟨?_, ?_, fun _ _ _ _ _ _ _ z => z.elim, fun _ _ _ _ _ _ _ z => z.elim⟩⟩
 · rintro ρ' M' σ' H' k hr' hh' ⟨M0, hs, q'⟩
   exact en .non .non M0 H' k (hh'.sub hs) rep_non q'
 · rintro t' v' M' H' k hh' r' ⟨M0, hs, q'⟩
   exact en t' v' M0 H' k (hh'.sub hs) r' q'
theorem Fun.dfn {x qual : Str} {st : Stmt} {f : Addr} {fd : FuncData} {N ps : List Str} {n : Nat} {sp : Sp3} (F : Fun K x qual st f fd) (hm : mg x = some (.ref f)) (hb : Binds K fd ps []) (S : FnScope N ps (defScope st)) (len : ∀ ts M Q, sp ts M Q → ts.length = ps.length)
   (hbody : ∃ t : TS3, (∀ (cdv : Value) (A : Around) (outer : List Env) (s : Shared) (H : Hp) (E : XK), Room n (A.deeper (envOfC qual (defScope st) s.heap.objs.size f cdv)) →
     HSs (cxOf CX0 P w K mg base N qual (defScope st) f cdv A outer s H E).nox (defBody st) t) ∧
     ∀ ts M Q, sp ts M Q → t { nx := fun _ M' => rt3 M Q .non M', rt := rt3 M Q } (start3 N ts) M) : Df P w K mg base (n + 1) x ps sp :=
 ⟨f, fd, F.fnk S len hbody, hm, F.kp, hb⟩
end
theorem law_walk {l : PySem.W.OpenLaw} {k : Nat} {q : Program} {loose : List Str} {XP : (Str → Option Value) → Heap → Prop} {YP : World → Heap → Prop} {d : DefRec} {K : Params → PySem.W.Frag} {sp : Sp3}
   (hn : l.most = some 63) (hdf : d.params.defaults = []) (hr : Room k callerA) (hY : ∀ (w : World) (h : Heap), YP w h → (K w.params).In h)
   (hs : ∀ (ns : List Int) M Q, ns.length ≤ 63 → Q (.bl true) M → sp [.rd (ns.map .int)] M Q)
   (F : ∀ (w : World) (mg : Str → Option Value) (fa : Addr) (h : Heap), (K w.params).In h → h.Ns mainGlobals mg → mg d.name = some (.ref fa) →
     ∃ fd : FuncData, (∀ (s : Shared) (u : Value), BindsTo s fd ⟨[u], []⟩ [("script", u)]) ∧ ∀ base : Heap, (K w.params).In base → base.Ns mainGlobals mg → FnOk l.prog w (K w.params) mg base CX0 k fa fd ["script"] (dSp (K w.params) sp)) :
   PySem.W.WalkO q loose XP YP l.row.toRowW d [] (fun f vs => PySem.call f vs) := by
 refine L2.walk_of (n := 63) (k := k) (x := "script") (CX := fun _ => CX0) (sp := fun w => dSp (K w.params) sp) hn (by decide) hdf hr hY F (fun w H a ns hl hO hS => ?_) fun _ _ _ _ _ z => z
 have fz : FzL (K w.params) H a (ns.map V.int) := by
   rcases hS with (h | ⟨o, h⟩) | h
   · rcases hO a with z | ⟨ob, xs, z⟩
     · rw [h] at z; cases z
     · rw [h] at z; cases z
   · exact .inl ⟨o, h⟩
   · exact .inr h
 refine ⟨[.rd (ns.map .int)], fun _ => none, fun t _ => t = .bl true, .cons ?_ .nil, (fun _ _ z => by cases z), hs ns _ (fun t _ => t = .bl true) hl rfl, fun t v M' H' _ _ r e => ?_⟩
 · unfold Rep
   exact ⟨a, _, rfl, fz, Reps.of_ints ns⟩
 · subst e
   exact inv_bl r
end L2
namespace L2
open PySem PySem.Spec PyProof.Rows
theorem vals_of_get : ∀ {xs : List V} {us : List Value}, xs.length = us.length → (∀ (j : Nat) x, xs[j]? = some x → ∃ u, us[j]? = some u ∧ RelV x u) → Vals xs us
 | [], [], _, _ => .nil
 | [], _ :: _, h, _ => by simp at h
 | _ :: _, [], h, _ => by simp at h
 | x :: xs, u :: us, h, g => by
   refine .cons ?_ (vals_of_get (by simpa using h) fun j y e => ?_)
   · obtain ⟨w, e, r⟩ := g 0 x rfl
     have : u = w := by simpa using e
     subst this; exact r
   · obtain ⟨w, e', r⟩ := g (j + 1) y (by simpa using e)
     exact ⟨w, by simpa using e', r⟩
noncomputable def rangeV (lo : Int) (n : Nat) : List V := (List.range n).map fun i => V.int (lo + (i : Nat))
theorem rangeV_reps {K : PySem.W.Frag} {H : Hp} (lo : Int) (n : Nat) : Reps K H (rangeV lo n) (rangeT lo n) := by
 have e1 : rangeV lo n = ((List.range n).map fun i => lo + ((i : Nat) : Int)).map V.int := by unfold rangeV; rw [List.map_map]; rfl
 have e2 : rangeT lo n = ((List.range n).map fun i => lo + ((i : Nat) : Int)).map T.int := by unfold rangeT; rw [List.map_map]; rfl
 rw [e1, e2]; exact Reps.of_ints _
section
variable {X : Cx} {a b e : Expr} {es : List Expr} {ta te : TE3} {t : TA3} {pos : Pos}
noncomputable def tLRng1 (t : TA3) : TE3 := fun ρ M Q => t ρ M fun xs M1 => match xs with
 | [.int j] => (-(2 ^ 62) ≤ j ∧ j < 2 ^ 24) ∧ ∀ p, M1 p = none → Q (.adr p) (updM M1 p (.lst (rangeT 0 j.toNat)))
 | _ => False
theorem h_listRange1 {t : TA3} {p p' pos' : Pos} (hm : X.mg "list" = none) (hm' : X.mg "range" = none) (ha : HA X [a] t) (hc : X.calm = true := by rfl) (hg : Gl X "list" := by rfl) (hg' : Gl X "range" := by rfl) (hs : starEach [a] X.env = [(false, eval a X.env)] := by rfl)
   (he : starEach [.Call (.Name "range" p') [a] [] pos'] X.env = (false, eval (.Call (.Name "range" p') [a] [] pos') X.env) :: starEach [] X.env := by rfl) :
   HE X (.Call (.Name "list" p) [.Call (.Name "range" p') [a] [] pos'] [] pos) (tLRng1 t) := by
 intro ρ M Q h pins s σ H Q2 I bb
 obtain ⟨hr, hh, en⟩ := bb
 refine wpAny_Call_Name_kw (ld_blt I hg hm boot_list ?_ (by decide) (by decide))
 refine PyProof.Rows.callWith_type1 ?_ he rfl
 rw [he]
 refine Calls.spliced_cons ?_
 refine Call_ (ld_blt I hg' hm' boot_range (PyProof.Rows.callWith_type1 (thn (ha ρ M _ h pos' pins s σ H (fun vs H1 => ∃ j M1, vs = [V.int j] ∧ HR X.K H1 M1 ∧ Kp X.K H H1 ∧ (-(2 ^ 62) ≤ j ∧ j < 2 ^ 24) ∧ ∀ p, M1 p = none → Q (.adr p) (updM M1 p (.lst (rangeT 0 j.toNat)))) I
   ⟨hr, hh, fun ts vs M1 H1 k1 h1 r1 q1 => by
     dsimp only at q1
     split at q1
     · rename_i j
       obtain ⟨v, rfl, rv⟩ := reps1 r1
       obtain rfl := inv_int rv
       exact ⟨j, M1, rfl, h1, k1, q1.1, q1.2⟩
     · exact q1.elim⟩) fun us s1 ⟨vs, H1, I1, rv, j, M1, e1, h1, k1, hj, q1⟩ => ?_) hs rfl))
 subst e1
 obtain ⟨u, rfl, t', rfl⟩ := vals1 rv
 refine call_range_1 (Calls.spliced_nil ?_)
 have I2 : Inv X pins σ H1 { s1 with heap := s1.heap.push { cls := .type "range", data := .fields #[.int 0 s1.toks, .int j t', .int 1 (s1.toks + 1)] }, toks := s1.toks + 2 } := I1.kept fun b o e => Heap.get?_push_of_some _ e
 have hn : Builtin.Range.rangeSize 0 j 1 = ((j.toNat : Nat) : Int) := by rw [rangeSize_one]; split <;> lia
 refine call_list_range (I1.ok.hd hc) (IsRange.new ..) (small_one (by lia) (by lia) (by lia) (by lia)) hn (by lia) fun h' tk acc' c' kp e ito => ?_
 have hz : j.toNat ≤ sizeLine := by rw [sizeLine_eq]; lia
 have vr : Vals (rangeV 0 j.toNat) acc'.toList := by
   refine vals_of_get (by unfold rangeV; simp [ito.1]) fun i x ex => ?_
   have hi : i < j.toNat := by have := (List.getElem?_eq_some_iff.mp ex).1; simpa [rangeV] using this
   have hi' : i < acc'.size := by rw [ito.1]; exact hi
   have ea : acc'[i]? = some acc'[i] := Array.getElem?_eq_getElem hi'
   obtain ⟨tt, et⟩ := ito.2 i _ ea
   refine ⟨acc'[i], by rw [Array.getElem?_toList]; exact ea, ?_⟩
   unfold rangeV at ex
   rw [List.getElem?_map, List.getElem?_range hi] at ex
   have := Option.some.inj ex
   subst this
   exact ⟨tt, by rw [et, Int.mul_one]⟩
 have I3 := I2.laid (a := { s1 with heap := s1.heap.push { cls := .type "range", data := .fields #[.int 0 s1.toks, .int j t', .int 1 (s1.toks + 1)] }, toks := s1.toks + 2 }.heap.objs.size) (o := .lst (rangeV 0 j.toNat)) (t' := tk) kp (Nat.le_refl _)
   (show ObjOk X.prog X.w _ h' _ (.lst (rangeV 0 j.toNat)) from ⟨by unfold rangeV; simpa using hz, acc'.toList, c', vr, by simpa using e⟩)
 have hf := I2.hok.fresh (Nat.le_refl _)
 exact ⟨.ref _, _, I3, rfl, en _ _ _ _ (k1.trans (Kp.new hf)) (h1.newL hf (rangeV_reps 0 j.toNat)) rep_adr (q1 _ (h1.free hf))⟩
noncomputable def isLst (M : MH) (x : T) : Prop := match x with
 | .adr p => (match M p with | some (.lst _) => True | _ => False)
 | _ => False
noncomputable abbrev RM3 := T → List T → MH → VK3 → Prop
noncomputable def dM (K : PySem.W.Frag) (r : RM3) : V → List V → Hp → VK → Prop := fun v vs H Q2 => ∃ x xs M Q, Rep K H v x ∧ Reps K H vs xs ∧ HR K H M ∧ r x xs M Q ∧ EndE K H Q Q2
noncomputable def MtR3 (X : Cx) (id : String) (r : RM3) : Prop := MtR X id (dM X.K r)
noncomputable def tLM3 (r : RM3) (to : TE3) (t : TA3) : TE3 := fun ρ M Q => to ρ M fun x M1 => isLst M1 x ∧ t ρ M1 fun xs M2 => r x xs M2 Q
noncomputable def tLM0 (r : RM3) (to : TE3) : TE3 := fun ρ M Q => to ρ M fun x M1 => isLst M1 x ∧ r x [] M1 Q
theorem isLst_ty {K : PySem.W.Frag} {H : Hp} {M : MH} {x : T} {v : V} (hh : HR K H M) (r : Rep K H v x) (h : isLst M x) : tyV K "list" v H := by
 unfold isLst at h
 split at h
 · rename_i p
   split at h
   · rename_i ts e
     obtain ⟨xs, g1, _⟩ := hh _ _ e
     obtain rfl := inv_adr r
     exact .inl ⟨rfl, xs, SqL.of g1⟩
   · exact h.elim
 · exact h.elim
theorem h_lm {o : Expr} {to : TE3} {name : Str} {apos cpos : Pos} {id : String} {r : RM3} (slot : Slot "list" name id) (hty : typeOf (.builtin id) = pure (.type "method_descriptor")) (hm : MtR3 X id r) (ho : HE X o to) (ha : HA X (e :: es) t)
   (hbase : attributeBase o name X.env (eval o X.env) = eval o X.env := by rfl)
   (hfew : ((backTo cpos (starEach (e :: es) X.env)).all (fun x => !x.1) && (backToKw cpos (keywordEach [] X.env)).all (fun x => x.1.isSome)
     && decide ((e :: es).length + ([] : List Keyword).length + (if ([] : List Keyword).isEmpty then 0 else 1) < 30)) = true := by rfl)
   (hline : (apos.endLine == cpos.line) = true := by rfl) (hs : starEach (e :: es) X.env = (false, eval e X.env) :: starEach es X.env := by rfl) (hplain : (backTo cpos (starEach es X.env)).any (·.1) = false := by rfl) :
   HE X (.Call (.Attribute o name apos) (e :: es) [] cpos) (tLM3 r to t) := fun ρ M Q h =>
 (pe_bm PySem.F.plainAttrs_list slot hty hm (ho.d (ρ := ρ)) (ha.d (ρ := ρ)) hbase hfew hline hs hplain).imp fun σ H Q2 ⟨hr, hh, en⟩ => ⟨M, _, h, hr, hh, fun x v M1 H1 k1 h1 r1 q1 => ⟨isLst_ty h1 r1 q1.1, M1, _, q1.2, hr.kp k1, h1, fun ts vs M2 H2 k2 h2 r2 q2 =>
   ⟨x, ts, M2, Q, Rep.kp k2 _ _ r1, r2, h2, q2, en.kp (k1.trans k2)⟩⟩⟩
theorem h_lm0 {o : Expr} {to : TE3} {name : Str} {apos cpos : Pos} {id : String} {r : RM3} (slot : Slot "list" name id) (hty : typeOf (.builtin id) = pure (.type "method_descriptor")) (hm : MtR3 X id r) (ho : HE X o to)
   (hbase : attributeBase o name X.env (eval o X.env) = eval o X.env := by rfl) (hline : (apos.endLine == cpos.line) = true := by rfl) : HE X (.Call (.Attribute o name apos) [] [] cpos) (tLM0 r to) := fun ρ M Q h =>
 (pe_bm0 PySem.F.plainAttrs_list slot hty hm (ho.d (ρ := ρ)) hbase hline).imp fun σ H Q2 ⟨hr, hh, en⟩ => ⟨M, _, h, hr, hh, fun x v M1 H1 k1 h1 r1 q1 => ⟨isLst_ty h1 r1 q1.1, x, [], M1, Q, r1, .nil, h1, q1.2, en.kp k1⟩⟩
noncomputable def rApp3 : RM3 := fun x xs M Q => match x, xs with
 | .adr p, [y] => (match M p with | some (.lst ts) => ts.length < sizeLine ∧ Q .non (updM M p (.lst (ts ++ [y]))) | _ => False)
 | _, _ => False
theorem mt3_append : MtR3 X "list.append" rApp3 := by
 intro pins s σ H v vs u us Q2 I rv rvs h
 obtain ⟨x, xs, M, Q, r1, r2, hh, q, en⟩ := h
 unfold rApp3 at q
 split at q
 · rename_i p y
   split at q
   · rename_i ts e0
     obtain ⟨ys, g1, g2⟩ := hh _ _ e0
     obtain rfl := inv_adr r1
     obtain ⟨w, rfl, rw'⟩ := reps1 r2
     exact mt_append pins s σ H _ _ u us Q2 I rv rvs ⟨_, ys, w, rfl, rfl, g1, by rw [g2.length]; exact q.1, en _ _ _ _ (Kp.lst g1) (hh.setL g1 (g2.append (.cons rw' .nil))) rep_non q.2⟩
   · exact q.elim
 · exact q.elim
noncomputable def rPop3 : RM3 := fun x xs M Q => match x, xs with
 | .adr p, [] => (match M p with | some (.lst ts) => (match ts[ts.length - 1]? with | some y => Q y (updM M p (.lst ts.dropLast)) | none => False) | _ => False)
 | _, _ => False
theorem mt3_pop : MtR3 X "list.pop" rPop3 := by
 intro pins s σ H v vs u us Q2 I rv rvs h
 obtain ⟨x, xs, M, Q, r1, r2, hh, q, en⟩ := h
 unfold rPop3 at q
 split at q
 · rename_i p
   split at q
   · rename_i ts e0
     obtain ⟨ys, g1, g2⟩ := hh _ _ e0
     obtain rfl := inv_adr r1
     unfold Reps at r2
     subst r2
     split at q
     · rename_i y ey
       obtain ⟨w, ew, rw'⟩ := g2.get ey
       rw [← g2.length] at ew
       exact mt_pop pins s σ H _ _ u us Q2 I rv rvs ⟨_, ys, w, rfl, rfl, g1, ew, en _ _ _ _ (Kp.lst g1) (hh.setL g1 g2.dropLast) (Rep.kp (Kp.lst g1) _ _ rw') q⟩
     · exact q.elim
   · exact q.elim
 · exact q.elim
noncomputable def intsT : List T → Option (List Int)
 | [] => some []
 | .int i :: ts => (intsT ts).map (i :: ·)
 | _ :: _ => none
theorem intsT_map : ∀ (ns : List Int), intsT (ns.map T.int) = some ns
 | [] => rfl
 | n :: ns => by show (intsT (ns.map T.int)).map (n :: ·) = _; rw [intsT_map ns]; rfl
theorem intsT_some : ∀ {ts : List T} {ns : List Int}, intsT ts = some ns → ts = ns.map T.int
 | [], ns, e => by unfold intsT at e; cases e; rfl
 | t :: ts, ns, e => by
   cases t with
   | int i =>
     unfold intsT at e
     cases q : intsT ts with
     | none => rw [q] at e; cases e
     | some cs => rw [q] at e; cases e; rw [intsT_some q]; rfl
   | _ => unfold intsT at e; cases e
noncomputable def rIndex3 : RM3 := fun x xs M Q => match x, xs with
 | .adr p, [.int k] => (match M p with
   | some (.lst ts) => (match intsT ts with | some ns => k ∈ ns ∧ Q (.int (ns.idxOf k)) M | none => False)
   | _ => False)
 | _, _ => False
theorem mt3_index : MtR3 X "list.index" rIndex3 := by
 intro pins s σ H v vs u us Q2 I rv rvs h
 obtain ⟨x, xs, M, Q, r1, r2, hh, q, en⟩ := h
 unfold rIndex3 at q
 split at q
 · rename_i p k
   split at q
   · rename_i ts e0
     obtain ⟨ys, g1, g2⟩ := hh _ _ e0
     obtain rfl := inv_adr r1
     obtain ⟨w, rfl, rw'⟩ := reps1 r2
     obtain rfl := inv_int rw'
     split at q
     · rename_i ns en'
       have et := intsT_some en'
       subst et
       obtain rfl := g2.ints
       cases rv
       obtain ⟨w', rfl, tk, rfl⟩ := vals1 rvs
       obtain ⟨its, r', pl, hz⟩ := I.list (SqL.of g1)
       have hl := r'.length
       rw [List.length_map] at hl hz
       obtain ⟨o, n, eo, ec, edd, ed⟩ := id pl
       obtain ⟨cls, dd, data, sl⟩ := o
       simp only at ec edd ed
       subst ec edd ed
       have hk : ns.idxOf k < ns.length := List.idxOf_lt_length_iff.mpr q.1
       have item : ∀ (j : Nat) (hj : j < its.toArray.size), ∃ tk', its.toArray[j] = Value.int (ns[j]'(by rw [List.size_toArray, ← hl] at hj; exact hj)) tk' := fun j hj => by
         have hj' : j < ns.length := by rw [List.size_toArray, ← hl] at hj; exact hj
         obtain ⟨w2, e2, tk', rfl⟩ := r'.get (i := j) (x := V.int ns[j]) (by rw [List.getElem?_map, List.getElem?_eq_getElem hj'] <;> rfl)
         have : its[j]? = some its.toArray[j] := by rw [List.getElem?_eq_getElem (by rw [List.size_toArray] at hj; exact hj)] <;> simp
         rw [e2] at this
         exact ⟨tk', (Option.some.inj this).symm⟩
       let ee : Value → Bool := fun v => match v with | .int i _ => i == k | _ => false
       have hsz := sizeLine_eq
       refine call_meets PySem.F.slot_list_index ⟨_, eo, rfl⟩ PySem.F.entry_list_index (PySem.F.args_list_index_2 _ _)
         (SeqAt.list_indexAt p its.toArray n none sl (.int k tk) ee (ns.idxOf k) (by rw [List.size_toArray, ← hl]; exact hk) (by lia) ?_ ?_) ⟨eo, fun y hy => ?_, ?_⟩
       · obtain ⟨tk', e⟩ := item (ns.idxOf k) (by rw [List.size_toArray, ← hl]; exact hk)
         rw [e]
         show (ns[ns.idxOf k] == k) = true
         simp
       · intro m hm hlt
         obtain ⟨tk', e⟩ := item m hm
         rw [e]
         show (ns[m]'_ == k) = false
         have := List.not_of_lt_findIdx (p := (· == k)) (xs := ns) (i := m) (by simpa [List.idxOf] using hlt)
         simpa using this
       · obtain ⟨j, hj, rfl⟩ := Array.getElem_of_mem hy
         obtain ⟨tk', e⟩ := item j hj
         rw [e]
         exact SeqAt.EqAt.int_int _ _ _ _
       · exact ⟨.int (ns.idxOf k), H, I.tok _, ⟨_, rfl⟩, en _ _ M H Kp.refl hh rep_int q.2⟩
     · exact q.elim
   · exact q.elim
 · exact q.elim
theorem h_m_append {o : Expr} {to : TE3} {apos cpos : Pos} (ho : HE X o to) (ha : HA X (e :: es) t)
   (hbase : attributeBase o "append" X.env (eval o X.env) = eval o X.env := by rfl)
   (hfew : ((backTo cpos (starEach (e :: es) X.env)).all (fun x => !x.1) && (backToKw cpos (keywordEach [] X.env)).all (fun x => x.1.isSome)
     && decide ((e :: es).length + ([] : List Keyword).length + (if ([] : List Keyword).isEmpty then 0 else 1) < 30)) = true := by rfl)
   (hline : (apos.endLine == cpos.line) = true := by rfl) (hs : starEach (e :: es) X.env = (false, eval e X.env) :: starEach es X.env := by rfl) (hplain : (backTo cpos (starEach es X.env)).any (·.1) = false := by rfl) :
   HE X (.Call (.Attribute o "append" apos) (e :: es) [] cpos) (tLM3 rApp3 to t) := h_lm PySem.F.slot_list_append PySem.F.type_list_append mt3_append ho ha hbase hfew hline hs hplain
theorem h_m_pop {o : Expr} {to : TE3} {apos cpos : Pos} (ho : HE X o to) (_ : HA X [] tNil3) (hbase : attributeBase o "pop" X.env (eval o X.env) = eval o X.env := by rfl) (hline : (apos.endLine == cpos.line) = true := by rfl) :
   HE X (.Call (.Attribute o "pop" apos) [] [] cpos) (tLM0 rPop3 to) := h_lm0 PySem.F.slot_list_pop PySem.F.type_list_pop mt3_pop ho hbase hline
end
end L2
namespace LM
noncomputable def LetOK (n l : Int) : Prop := 1 ≤ (l.natAbs : Int) ∧ (l.natAbs : Int) < n
noncomputable def WordOK (n : Int) (w : List Int) : Prop := ∀ l ∈ w, LetOK n l
noncomputable def isLet (n l : Int) : Bool := decide (1 ≤ l.natAbs) && decide ((l.natAbs : Int) < n)
noncomputable def isPl (n : Int) (w : List Int) : Bool := decide (1 ≤ n) && decide (n ≤ 6) && decide (w.length ≤ 16) && w.all (isLet n)
noncomputable def PlOK (n : Int) (w : List Int) : Prop := 1 ≤ n ∧ n ≤ 6 ∧ w.length ≤ 16 ∧ WordOK n w
theorem isLet_iff {n l : Int} : isLet n l = true ↔ LetOK n l := by
 unfold isLet LetOK
 simp only [Bool.and_eq_true, decide_eq_true_eq]
 lia
theorem PlOK.is {n : Int} {w : List Int} (h : PlOK n w) : isPl n w = true := by
 obtain ⟨h1, h2, h3, h4⟩ := h
 unfold isPl
 simp only [Bool.and_eq_true, decide_eq_true_eq, List.all_eq_true]
 exact ⟨⟨⟨h1, h2⟩, h3⟩, fun l hl => isLet_iff.mpr (h4 l hl)⟩
theorem isPl_iff {n : Int} {w : List Int} : isPl n w = true ↔ PlOK n w := by
 refine ⟨fun h => ?_, PlOK.is⟩
 unfold isPl at h
 simp only [Bool.and_eq_true, decide_eq_true_eq, List.all_eq_true] at h
 exact ⟨h.1.1.1, h.1.1.2, h.1.2, fun l hl => isLet_iff.mp (h.2 l hl)⟩
theorem WordOK.nil {n : Int} : WordOK n [] := fun _ z => nomatch z
theorem take_succ_map {α β : Type} (f : α → β) {L : List α} {i : Nat} {x : α} (h : L[i]? = some x) : (L.take i).map f ++ [f x] = (L.take (i + 1)).map f := by
 rw [List.take_add_one, h]; simp
theorem get_map_int {α β : Type} {f : α → β} {L : List α} {i : Nat} {y : β} (h : (L.map f)[i]? = some y) : ∃ x, L[i]? = some x ∧ f x = y := by
 rw [List.getElem?_map] at h
 cases q : L[i]? with
 | none => rw [q] at h; cases h
 | some x => rw [q] at h; exact ⟨x, rfl, Option.some.inj h⟩
noncomputable def range0 (n : Int) : List Int := (List.range n.toNat).map fun i => ((i : Nat) : Int)
theorem range0_length (n : Int) : (range0 n).length = n.toNat := by unfold range0; simp
theorem mem_range0 {n s : Int} (h : s ∈ range0 n) : 0 ≤ s ∧ s < n := by
 unfold range0 at h
 obtain ⟨i, hi, rfl⟩ := List.mem_map.mp h
 have := List.mem_range.mp hi
 lia
theorem getD_mem {l : List Int} {k : Nat} (h : k < l.length) : l.getD k 0 ∈ l := by
 rw [List.getD_eq_getElem?_getD, List.getElem?_eq_getElem h]
 exact List.getElem_mem h
theorem range0_nodup (n : Int) : (range0 n).Nodup := by
 unfold range0
 refine List.Pairwise.map _ (fun (a b : Nat) (h : a ≠ b) => ?_) List.nodup_range
 show (a : Int) ≠ (b : Int)
 lia
noncomputable def contrL (w : List Int) : List Int := w.reverse.map fun l => -l
theorem WordOK.map {n : Int} {w : List Int} {f : Int → Int} (hf : ∀ l, LetOK n l → LetOK n (f l)) (h : WordOK n w) : WordOK n (w.map f) := fun l hl => by
 obtain ⟨k, hk, rfl⟩ := List.mem_map.mp hl
 exact hf k (h k hk)
theorem PlOK.map {n : Int} {w : List Int} {f : Int → Int} (hf : ∀ l, LetOK n l → LetOK n (f l)) (h : PlOK n w) : PlOK n (w.map f) := ⟨h.1, h.2.1, by rw [List.length_map]; exact h.2.2.1, h.2.2.2.map hf⟩
theorem range0_mem {n s : Int} (h0 : 0 ≤ s) (h1 : s < n) : s ∈ range0 n := by
 unfold range0
 exact List.mem_map.mpr ⟨s.toNat, List.mem_range.mpr (by lia), by lia⟩
end LM
namespace LM
end LM
namespace LM
end LM
namespace LM
end LM
namespace LM
end LM
namespace LM
end LM
namespace L2
open PySem PySem.Spec PyProof.Rows LM
theorem start3_cons (x : Str) (N : List Str) (t : T) (ts : List T) : start3 (x :: N) (t :: ts) = some t :: start3 N ts := by
 unfold start3
 simp only [List.map_cons, List.length_cons, Nat.add_sub_add_right, List.cons_append]
theorem start3_none (x : Str) (N : List Str) : start3 (x :: N) [] = none :: start3 N [] := by
 unfold start3
 simp only [List.map_nil, List.length_cons, List.length_nil, Nat.sub_zero, List.nil_append, List.replicate_succ]
theorem start3_nil : start3 [] [] = [] := rfl
theorem pick3_none (ix : List (Option Nat)) (ρ : En) : pick3 (none :: ix) ρ = none :: pick3 ix ρ := rfl
theorem pick3_some (j : Nat) (ix : List (Option Nat)) (ρ : En) : pick3 (some j :: ix) ρ = (ρ[j]?).join :: pick3 ix ρ := rfl
theorem pick3_nil (ρ : En) : pick3 [] ρ = [] := rfl
theorem join_some {α : Type} (a : Option α) : (some a).join = a := rfl
theorem rt3_here {M : MH} {Q : VK3} {t : T} {M' : MH} (h : Q t M') : rt3 M Q t M' := ⟨M', Sub.refl, h⟩
theorem atI_0 {α : Type} (x : α) (xs : List α) : atI (x :: xs) 0 = some x := by
 have := atI_nat (xs := x :: xs) (j := 0) (v := x) rfl
 simpa using this
theorem atI_1 {α : Type} (x y : α) (xs : List α) : atI (x :: y :: xs) 1 = some y := by
 have := atI_nat (xs := x :: y :: xs) (j := 1) (v := y) rfl
 simpa using this
theorem atI_2 {α : Type} (x y z : α) (xs : List α) : atI (x :: y :: z :: xs) 2 = some z := by
 have := atI_nat (xs := x :: y :: z :: xs) (j := 2) (v := z) rfl
 simpa using this
theorem ixN_0 (n : Nat) : ixN (n + 1) 0 = some 0 := by
 unfold ixN
 rw [if_pos (by lia), if_pos (by lia)]; rfl
theorem updM_updM {M : MH} {a : Addr} {o u : MO} : updM (updM M a o) a u = updM M a u := by
 funext b; unfold updM; split <;> rfl
theorem atI_ints (ns : List Int) (i : Int) (h0 : 0 ≤ i) (h : i < ns.length) : atI (ns.map T.int) i = some (.int (ns.getD i.toNat 0)) := by
 have e : i = ((i.toNat : Nat) : Int) := by lia
 have hl : i.toNat < ns.length := by lia
 have := atI_nat (xs := ns.map T.int) (j := i.toNat) (v := .int (ns.getD i.toNat 0)) (by
   rw [List.getElem?_map, List.getElem?_eq_getElem hl]
   simp [List.getD, List.getElem?_eq_getElem hl])
 rw [← e] at this
 exact this
theorem bools_map (bs : List Bool) : bools (bs.map T.bl) = some bs := by
 induction bs with
 | nil => rfl
 | cons b bs ih => show (bools (bs.map T.bl)).map (b :: ·) = _; rw [ih]; rfl
theorem pureTs_ints (ns : List Int) : pureTs (ns.map T.int) = true := by
 induction ns with
 | nil => rfl
 | cons n ns ih => show (pureT (.int n) && pureTs (ns.map T.int)) = true; rw [ih]; rfl
theorem depTs_ints (ns : List Int) : depTs (ns.map T.int) = 0 := by
 induction ns with
 | nil => rfl
 | cons n ns ih => show max (depT (.int n)) (depTs (ns.map T.int)) = 0; rw [ih]; rfl
theorem eqTs_ints (a b : List Int) : eqTs (a.map T.int) (b.map T.int) = decide (a = b) := by
 induction a generalizing b with
 | nil => cases b <;> simp [eqTs]
 | cons x a ih =>
   cases b with
   | nil => simp [eqTs]
   | cons y b =>
     show (eqT (.int x) (.int y) && eqTs (a.map T.int) (b.map T.int)) = _
     rw [ih]
     have : eqT (.int x) (.int y) = (x == y) := rfl
     rw [this]
     by_cases h1 : x = y <;> by_cases h2 : a = b <;> simp [h1, h2]
theorem eqT_tup (a b : List T) : eqT (.tup a) (.tup b) = eqTs a b := rfl
theorem eqT_int (a b : Int) : eqT (.int a) (.int b) = decide (a = b) := by
 show (a == b) = _
 by_cases h : a = b <;> simp [h]
theorem eqTs_cons (x y : T) (a b : List T) : eqTs (x :: a) (y :: b) = (eqT x y && eqTs a b) := rfl
theorem eqTs_nil : eqTs [] [] = true := rfl
theorem pureTs_cons (x : T) (a : List T) : pureTs (x :: a) = (pureT x && pureTs a) := rfl
theorem pureTs_nil : pureTs [] = true := rfl
theorem pureT_int (i : Int) : pureT (.int i) = true := rfl
theorem pureT_bl (i : Bool) : pureT (.bl i) = true := rfl
theorem pureT_tup (i : List T) : pureT (.tup i) = pureTs i := rfl
theorem depT_int (i : Int) : depT (.int i) = 0 := rfl
theorem depT_bl (i : Bool) : depT (.bl i) = 0 := rfl
theorem depT_tup (i : List T) : depT (.tup i) = depTs i + 1 := rfl
theorem depTs_cons (x : T) (a : List T) : depTs (x :: a) = max (depT x) (depTs a) := rfl
theorem depTs_nil : depTs [] = 0 := rfl
theorem updM_self {M : MH} {p : Addr} {o : MO} (h : M p = some o) : updM M p o = M := by
 funext b; unfold updM; split
 · rename_i e; rw [e, h]
 · rfl
theorem ne_of_M {M : MH} {p q : Addr} {o : MO} (h : M p = some o) (h' : M q = none) : p ≠ q := by
 rintro rfl
 rw [h] at h'; cases h'
theorem Sub.set {M M' : MH} {p : Addr} {o u : MO} (h : Sub (updM M p o) M') : Sub (updM M p u) (updM M' p u) := fun a v e => by
 by_cases ha : a = p
 · subst ha; rw [updM_same] at e ⊢; exact e
 · rw [updM_ne ha] at e ⊢
   exact h a v (by rw [updM_ne ha]; exact e)
theorem Sub.newr {M M' : MH} {r : Addr} {o : MO} (h : Sub M M') (hr : M' r = none) : Sub M (updM M' r o) := h.trans (Sub.new hr)
theorem rt3_sub {M : MH} {Q : VK3} {t : T} {M0 M' : MH} (h : Q t M0) (s : Sub M0 M') : rt3 M Q t M' := ⟨M0, s, h⟩
theorem ixN_nat {n : Nat} {k : Int} (h0 : 0 ≤ k) (h : k < n) : ixN n k = some k.toNat := by
 unfold ixN
 rw [if_pos h0, if_pos h]
theorem rangeT_map (n : Nat) : rangeT 0 n = ((List.range n).map fun i => ((i : Nat) : Int)).map T.int := by
 unfold rangeT
 rw [List.map_map]
 congr 1
 funext i
 simp
theorem rangeT0 (n : Int) : rangeT 0 n.toNat = (range0 n).map T.int := rangeT_map _
theorem rangeT_length (a : Int) (n : Nat) : (rangeT a n).length = n := by unfold rangeT; simp
theorem Sub.updF {M M' : MH} {p : Addr} {o : MO} (h : Sub M M') (hp : M p = none) : Sub M (updM M' p o) := fun a v e => by
 have ha : a ≠ p := by rintro rfl; rw [hp] at e; cases e
 rw [updM_ne ha]; exact h a v e
end L2
namespace L2
open PySem PySem.Spec PyProof.Rows
theorem no_rev_tuple : typeLookup (.type "tuple") "__reversed__" = pure none := by rw [typeLookup_type, builtinLookup_eq_fast]; kernel_rfl
theorem sub_tuple_dict : isSubtype (.type "tuple") (.type "dict") = pure false := by rw [isSubtype_type]; kernel_rfl
noncomputable def revT (t : Addr) (i : Int) : Obj := { cls := .type "reversed", data := .fields #[.ref t, rawInt i] }
section
variable {prog : Program} {w : World} {A : Around} {E : Value → Shared → Prop} {s : Shared}
theorem code_revT_new {t : Addr} {items : Array Value} {Q₁ : Value → Shared → Prop} (ht : IsTup s.heap t items) (hz : items.size ≤ sizeLine)
   (h : ∀ h' tk, (∀ b o, s.heap.get? b = some o → h'.get? b = some o) → h'.get? s.heap.objs.size = some (revT t ((items.size : Int) - 1)) → Q₁ (.ref s.heap.objs.size) { s with heap := h', toks := tk }) :
   codeAny (model prog w) A (.call (.builtin "reversed.__new__") ⟨[.type "reversed", .ref t], []⟩) (wants Q₁ E) s := by
 refine codeAny_of_tree ?_
 show wpAny _ A.in1 (do checkBuiltinCall "reversed.__new__" ⟨[.type "reversed", .ref t], []⟩; again (.builtin "reversed.__new__" ⟨[.type "reversed", .ref t], []⟩)) _ _ s
 refine wpAny_bind (wpAny_of_eq (F.newCall_reversed_1 _) (wpAny_pure ⟨plainId_quiet F.plain_reversed_new _, codeAny_builtin F.entry_reversed_new ?_⟩))
 rw [Around.under_plainId F.plain_reversed_new _]
 unfold Builtin.«reversed.__new__»
 refine wpAny_bind (wpAny_of_eq (newClass_reversed _) ?_)
 try dsimp only
 refine wpAny_bind (wpAny_of_eq (a := ()) (by first | rfl | kernel_rfl) ?_)
 refine wpAny_bind (wpAny_of_eq (a := ()) (by first | rfl | kernel_rfl) ?_)
 try dsimp only
 refine wpAny_bind (wpAny_specialOf ht.typeIs no_rev_tuple ?_)
 try dsimp only
 refine wpAny_bind (m := (do
   if ← isInstance (.ref t) (.type "dict") then return false
   match ← specialOf (.ref t) "__getitem__" with
   | none => return false
   | some (.builtin id) =>
     if ["tuple.__getitem__", "str.__getitem__", "bytes.__getitem__", "bytearray.__getitem__", "memoryview.__getitem__", "numpy.ndarray.__getitem__", "sqlite3.Row.__getitem__"].contains id then return true
     if id == "sqlite3.Blob.__getitem__" then return false
     unsupported "reversed.__new__:is-it-a-sequence"
   | some _ => return true)) ?_
 refine wpAny_bind (wpAny_isInstance ht.typeIs sub_tuple_dict ?_)
 try dsimp only
 rw [if_neg Bool.false_ne_true]
 refine wpAny_bind (wpAny_specialOf ht.typeIs slot_tuple_getitem.lookup ?_)
 try dsimp only
 rw [if_pos (by decide)]
 refine wpAny_pure ?_
 rw [if_neg (by decide)]
 have hn := line63
 refine wpAny_bind (len_tuple ht (by lia) ?_)
 refine wpAny_bind (wpAny_of_eq (a := some (items.size : Int)) (by rfl) ?_)
 dsimp only
 refine wpAny_bind ?_
 unfold Builtin.SmallTypes.newRecord
 dsimp only
 refine wpAny_newObj_type ?_
 exact wpAny_pure (h _ _ (fun b o e => Heap.get?_push_of_some _ e) (Heap.get?_push_size _ rfl))
theorem slot_rev_init : Slot "reversed" "__init__" "object.__init__" :=
 .of (owner := "object") (n := "__init__") (by rw [typeLookup_type, builtinLookup_eq_fast]; kernel_rfl) (by decide +kernel) (by decide +kernel) (by decide +kernel)
   (by first | exact .inl (by decide +kernel) | exact .inr (by decide +kernel)) (by rw [isSubtype_type]; kernel_rfl)
theorem slot_rev_next : Slot "reversed" "__next__" "reversed.__next__" :=
 .of (owner := "reversed") (n := "__next__") (by rw [typeLookup_type, builtinLookup_eq_fast]; kernel_rfl) (by decide +kernel) (by decide +kernel) (by decide +kernel)
   (by first | exact .inl (by decide +kernel) | exact .inr (by decide +kernel)) (by rw [isSubtype_type]; kernel_rfl)
theorem called_reversed : TypeCalled "reversed" "reversed.__new__" "object.__init__" :=
 ⟨by decide +kernel, by decide +kernel, ⟨_, _, F.mro_reversed⟩, F.made_reversed, F.plain_reversed_new, F.sub_reversed_self, slot_rev_init⟩
theorem call_reversedT {t : Addr} {items : Array Value} {Q : Value → Shared → Prop} (ht : IsTup s.heap t items) (hz : items.size ≤ sizeLine)
   (h : ∀ h' tk, (∀ b o, s.heap.get? b = some o → h'.get? b = some o) → h'.get? s.heap.objs.size = some (revT t ((items.size : Int) - 1)) → Q (.ref s.heap.objs.size) { s with heap := h', toks := tk }) :
   wpAny (model prog w) A (call (.type "reversed") [.ref t]) Q E s := by
 refine callType_codes (Q₁ := fun obj s₁ => s₁.TypeIs obj "reversed" ∧ Q obj s₁) called_reversed (F.typeCall_reversed_1 _) F.entry_object_init (code_revT_new ht hz fun h' tk k e => ⟨⟨_, e, rfl⟩, h h' tk k e⟩) fun obj s₁ h₁ => ?_
 exact ⟨h₁.1, F.args_object_init_2 obj _, object_init_meets called_reversed.init.lookup called_reversed.made (by decide) prog w A.in1 _ s₁ ⟨h₁.1, rfl, h₁.2⟩⟩
theorem slot_rev_iter : Slot "reversed" "__iter__" "reversed.__iter__" :=
 .of (owner := "reversed") (n := "__iter__") (by rw [typeLookup_type, builtinLookup_eq_fast]; kernel_rfl) (by decide +kernel) (by decide +kernel) (by decide +kernel)
   (by first | exact .inl (by decide +kernel) | exact .inr (by decide +kernel)) (by rw [isSubtype_type]; kernel_rfl)
theorem entry_rev_iter : entryFor table "reversed.__iter__" = some Builtin.«dict_keyiterator.__iter__» :=
 entryFor_alias (id' := "dict_keyiterator.__iter__") (by kernel_rfl) (by first | rfl | decide +kernel | (unfold String.splitOn; simp +decide [String.splitOnAux])) (by decide +kernel) (by kernel_rfl)
theorem entry_rev_next : entryFor table "reversed.__next__" = some Builtin.«reversed.__next__» := entryFor_of_tree (by kernel_rfl)
theorem owner_rev : Manifest.owners.lookup (String.ofList ['d', 'e', 's', 'r', 'e', 'v', 'e', 'r'].reverse) = some Manifest.sig_reversed := by kernel_rfl
theorem args_rev_next_1 (a : Value) : argsOk "reversed.__next__" ⟨[a], []⟩ := by
 unfold argsOk; rw [signature?_of (id := "reversed.__next__") (n := ['_', '_', 't', 'x', 'e', 'n', '_', '_']) (o := ['d', 'e', 's', 'r', 'e', 'v', 'e', 'r']) (by kernel_rfl) owner_rev]; kernel_rfl
theorem args_rev_iter_1 (a : Value) : argsOk "reversed.__iter__" ⟨[a], []⟩ := by
 unfold argsOk; rw [signature?_of (id := "reversed.__iter__") (n := ['_', '_', 'r', 'e', 't', 'i', '_', '_']) (o := ['d', 'e', 's', 'r', 'e', 'v', 'e', 'r']) (by kernel_rfl) owner_rev]; kernel_rfl
noncomputable def IsRev (h : Heap) (a t : Addr) (i : Int) : Prop := h.get? a = some (revT t i)
theorem rev_type {a t : Addr} {i : Int} (x : IsRev s.heap a t i) : s.TypeIs (.ref a) "reversed" := ⟨_, x, rfl⟩
theorem next_rev_item {it t : Addr} {i : Nat} {items : Array Value} {x : Value} {Q : Option Value → Shared → Prop} (hit : IsRev s.heap it t (i : Int)) (ht : IsTup s.heap t items) (hx : items[i]? = some x) (hz : items.size ≤ sizeLine)
   (hQ : ∀ h' tk, IsRev h' it t ((i : Int) - 1) → Heap.SameBut it s.heap h' → Q (some x) { s with heap := h', toks := tk }) : wpAny (model prog w) A (pyNext (.ref it)) Q E s := by
 have hn := line63
 have hi : i < items.size := (Array.getElem?_eq_some_iff.mp hx).1
 have ho : s.heap.get? it = some (revT t (i : Int)) := hit
 unfold pyNext
 refine wpAny_bind (wpAny_attempt (wpAny_callSpecial?_slot (name := Str.ofString "__next__") (rev_type hit) slot_rev_next
   (wpAny_call_entry slot_rev_next (rev_type hit) entry_rev_next ?_ (args_rev_next_1 _))))
 unfold Builtin.«reversed.__next__»
 refine wpAny_bind (wpAny_of_eq (a := (Value.ref it, [])) rfl ?_)
 try dsimp only
 refine wpAny_bind (wpAny_field ho rfl (x := .ref t) rfl ?_)
 refine wpAny_bind (wpAny_field ho rfl (x := rawInt (i : Int)) rfl ?_)
 show wpAny _ _ (if (i : Int) < 0 then _ else _) _ _ s
 rw [if_neg (by lia)]
 refine wpAny_bind (wpAny_specialOf ht.typeIs slot_tuple_getitem.lookup ?_)
 try dsimp only
 rw [if_neg (by decide)]
 refine wpAny_bind (wpAny_mkInt ?_)
 refine wpAny_bind (wpAny_attempt (getItem_tuple (j := i) ht (by lia) (by lia) (seqIndex_of (by lia) (by lia)) hx ?_))
 try dsimp only
 refine wpAny_bind (wpAny_field (s := { s with toks := s.toks + 1 }) ho rfl (x := rawInt (i : Int)) rfl ?_)
 show wpAny _ _ (setField (.ref it) 1 (rawInt ((i : Int) - 1)) >>= fun _ => ret x) _ _ _
 refine wpAny_bind (wpAny_setField (s := { s with toks := s.toks + 1 }) ho rfl (by simp) ?_)
 refine wpAny_pure ⟨x, rfl, wpAny_pure (hQ _ _ ?_ (Heap.SameBut.update ..))⟩
 show Heap.get? _ it = _
 rw [Heap.get?_update_self _ ho (by simp [revT, Obj.mapFields, Obj.isFreed])]
 simp [revT, Obj.mapFields]
theorem stop_rev {it t : Addr} {Q : Option Value → Shared → Prop} (hh : A.handled = none) (hit : IsRev s.heap it t (-1))
   (hQ : ∀ h', Heap.ExtBut it s.heap h' → Q none { s with heap := h' }) : wpAny (model prog w) A (pyNext (.ref it)) Q E s := by
 have ho : s.heap.get? it = some (revT t (-1)) := hit
 unfold pyNext
 refine wpAny_bind (wpAny_attempt (wpAny_callSpecial?_slot (name := Str.ofString "__next__") (rev_type hit) slot_rev_next
   (wpAny_call_entry slot_rev_next (rev_type hit) entry_rev_next ?_ (args_rev_next_1 _))))
 unfold Builtin.«reversed.__next__»
 refine wpAny_bind (wpAny_of_eq (a := (Value.ref it, [])) rfl ?_)
 try dsimp only
 refine wpAny_bind (wpAny_field ho rfl (x := .ref t) rfl ?_)
 refine wpAny_bind (wpAny_field ho rfl (x := rawInt (-1)) rfl ?_)
 show wpAny _ _ (if (-1 : Int) < 0 then _ else _) _ _ s
 rw [if_pos (by decide)]
 refine wpAny_bind (wpAny_rule ?_)
 refine wpAny_bind (wpAny_bind (m := setField (.ref it) 1 (rawInt (-1))) (f := fun _ => setField (.ref it) 0 .none) ?_)
 refine wpAny_setField_rec ho (by simp) fun h1 e1 b1 => ?_
 refine wpAny_setField_rec (s := { s with heap := h1 }) e1 (by simp) fun h2 e2 b2 => ?_
 unfold Builtin.SmallTypes.stopIteration
 refine wpAny_bind ?_
 refine wpAny_bind ?_
 simp only [newExc, newTuple]
 refine wpAny_bind (wpAny_newObj_type ?_ (by size_fits))
 refine wpAny_bind (m := firstArgMember _ _) (wpAny_of_eq (a := Value.none) (by first | rfl | (simp only [firstArgMember]; rfl)) ?_)
 refine wpAny_newObj_type ?_ (by size_fits)
 simp only [raiseNew]
 refine wpAny_bind (wpAny_handled ?_)
 first | rw [show A.in1.handled = none from hh] | rw [hh]
 refine wpAny_bind (wpAny_pure (wpAny_throw ?_))
 refine wpAny_bind (wpAny_isInstance (T := "StopIteration") (b := true) ⟨_, Heap.get?_push_size _ rfl, rfl⟩ isSubtype_stop ?_)
 exact wpAny_pure (hQ _ (((b1.extBut.trans b2.extBut).push _).push _))
theorem iter_rev {it t : Addr} {i : Int} {Q : Value → Shared → Prop} (hit : IsRev s.heap it t i) (h : Q (.ref it) s) : wpAny (model prog w) A (pyIter (.ref it)) Q E s := by
 refine wpAny_pyIter_slot (rev_type hit) slot_rev_iter (wpAny_call_entry slot_rev_iter (rev_type hit) entry_rev_iter ?_ (args_rev_iter_1 _))
 show wpAny _ _ (ret (.ref it)) _ _ s
 exact wpAny_pure ⟨_, rfl, "reversed", _, rev_type hit, slot_rev_next.lookup, h⟩
end
noncomputable def Ittr (K : PySem.W.Frag) (a : Addr) (xs : List V) : It :=
 ⟨fun i H => SqT K H a xs ∧ i < xs.length, fun i H x H' => H' = H ∧ xs.reverse[i]? = some x, fun i H => SqT K H a xs ∧ i = xs.length⟩
theorem turn_rev {P : Program} {w : World} {K : PySem.W.Frag} {tg : Expr} (a it : Addr) (xs : List V) : Turn P w K tg (Ittr K a xs) [it] it (fun i h => IsRev h it a ((xs.length : Int) - 1 - (i : Int))) where
 mem := by simp
 obj := fun i h st b hb => by
   have e : b = it := by simpa using hb
   subst e
   exact ⟨_, st, fun v z => by
     have z' : Data.fields _ = Data.cell v := z
     cases z'⟩
 keep := fun i h h' st k => k it (by simp) _ st
 item := by
   intro X hP hw hK hc i pins s σ H E I hf st hg
   subst hP hw hK
   obtain ⟨hq, hi⟩ := hg
   obtain ⟨its, rv, p, hz⟩ := I.tuple hq
   have hl := rv.length
   obtain ⟨x, hx'⟩ : ∃ x, xs[xs.length - 1 - i]? = some x := ⟨_, List.getElem?_eq_getElem (by lia)⟩
   obtain ⟨u, hu, ru⟩ := rv.get hx'
   obtain ⟨f0, f1, f2, f3, f4, f5⟩ := hf it (by simp)
   have e1 : (xs.length : Int) - 1 - (i : Int) = ((xs.length - 1 - i : Nat) : Int) := by lia
   rw [e1] at st
   refine next_rev_item st p (x := u) (by simpa using hu) (by simp; lia) fun h' tk st' sb => ?_
   have I1 : Inv X pins σ H { s with heap := h', toks := tk } := I.turned (fun b o hb e => (sb.2 b hb).trans e) f0 f1 f3 f4 f5
   have e2 : ((xs.length - 1 - i : Nat) : Int) - 1 = (xs.length : Int) - 1 - ((i + 1 : Nat) : Int) := by lia
   rw [e2] at st'
   exact ⟨u, rfl, go_of (s := { s with heap := h', toks := tk }) (n := "reversed") st' rfl rfl (by decide) ⟨x, H, I1, ru, ⟨rfl, by rw [List.getElem?_reverse hi]; exact hx'⟩, st', fun b hb => (hf b hb).1⟩⟩
 done := by
   intro X hP hw hK hc i pins s σ H E I hf st hg
   subst hP hw hK
   obtain ⟨hq, rfl⟩ := hg
   obtain ⟨f0, f1, f2, f3, f4, f5⟩ := hf it (by simp)
   have e1 : (xs.length : Int) - 1 - (xs.length : Int) = -1 := by lia
   rw [e1] at st
   exact stop_rev (I.ok.hd hc) st fun h' eb => ⟨rfl, I.turned (t' := s.toks) (fun b o hb e => eb b o hb e) f0 f1 f3 f4 f5⟩
 self := fun _ _ _ _ _ st h => iter_rev st h
section
variable {X : Cx}
theorem itok_rev {K : PySem.W.Frag} {H : Hp} {a : Addr} {xs : List V} {ts : List T} (h : SqT K H a xs) (r : Reps K H xs ts) : ItOk K H (Ittr K a xs) ⟨ts.reverse, fun _ => True⟩ := by
 refine ⟨fun H' M' k hh _ => ⟨k.tup _ _ h, by show ts.reverse.length = _; rw [List.length_reverse, r.length]⟩, fun i x H' M' e k hh _ => ?_⟩
 have e' : ts.reverse[i]? = some x := e
 have hi : i < ts.length := by have := (List.getElem?_eq_some_iff.mp e').1; simpa using this
 rw [List.getElem?_reverse hi] at e'
 obtain ⟨v, e1, r1⟩ := r.get e'
 have hl := r.length
 have e2 : xs.reverse[i]? = some v := by rw [List.getElem?_reverse (by lia), hl]; exact e1
 refine ⟨⟨k.tup _ _ h, by lia⟩, fun v' H'' y => ?_⟩
 obtain ⟨rfl, y⟩ := y
 rw [e2] at y; cases y
 exact ⟨Kp.refl, hh, Rep.kp k _ _ r1⟩
end
theorem rangeT0_get {n i : Nat} {x : T} (h : (rangeT 0 n)[i]? = some x) : i < n ∧ x = .int i := by
 have hl := (List.getElem?_eq_some_iff.mp h).1
 rw [rangeT_length] at hl
 unfold rangeT at h
 rw [List.getElem?_map, List.getElem?_range hl] at h
 have e := Option.some.inj h
 refine ⟨hl, ?_⟩
 rw [← e]
 simp
theorem line_len {n : Nat} (h : n < 10000) : n < sizeLine := Nat.lt_of_le_of_lt (by lia : n ≤ 10000) (by decide)
theorem line_len' {n : Nat} (h : n < 10000) : n ≤ sizeLine := Nat.le_of_lt (line_len h)
end L2
namespace HT
open PySem PySem.Spec PyProof.Rows
section
variable {prog : Program} {w : World} {A : Around} {E : Value → Shared → Prop} {s : Shared}
theorem getItem_tuple_all {t sl : Addr} {items : Array Value} {vl vu : Value} {lo hi : Option Int} {Q : Value → Shared → Prop} (ht : IsTup s.heap t items) (hs : s.heap.IsSliceOf sl vl vu .none) (pl : IsPart vl lo) (pu : IsPart vu hi)
   (hw : sIx items.size 0 lo = 0 ∧ sIx items.size items.size hi = items.size) (h : Q (.ref t) s)
   (hsz : items.size ≤ sizeLine) : wpAny (model prog w) A (getItem (.ref t) (.ref sl)) Q E s := by
 obtain ⟨os, hos, hcs, hds⟩ := id hs
 have hTs : s.TypeIs (.ref sl) "slice" := ⟨os, hos, hcs⟩
 unfold getItem
 try with_reducible refine wpAny_holding ?_
 first | refine wpAny_bind (wpAny_pure ?_) | skip
 refine wpAny_bind (wpAny_sequenceKey ht.typeIs (by decide) ?_)
 refine wpAny_bind (wpAny_callSpecial?_slot (name := Str.ofString "__getitem__") ht.typeIs PyProof.Rows.slot_tuple_getitem
   (wpAny_call_entry PyProof.Rows.slot_tuple_getitem ht.typeIs entry_tuple_getitem ?_ (args_tuple_getitem _ _)))
 show wpAny _ _ (Builtin.Tuple.tupleItemsOf (.ref t) >>= _) _ _ s
 refine wpAny_bind (tupleItemsOf_ ht ?_)
 refine wpAny_bind (wpAny_typeOf hTs ?_)
 rw [if_pos (by decide)]
 refine wpAny_bind (sliceApplied_gen hs pl pu ?_)
 have hyes : (((sIx items.size 0 lo : Nat) : Int) == 0 && (1 : Int) == 1 && (sIx items.size items.size hi - sIx items.size 0 lo) == items.size) = true := by
   rw [hw.1, hw.2]
   simp
 show wpAny _ _ (if (((sIx items.size 0 lo : Nat) : Int) == 0 && (1 : Int) == 1 && (sIx items.size items.size hi - sIx items.size 0 lo) == items.size) = true then _ else _) _ _ s
 rw [if_pos hyes]
 refine wpAny_bind (m := Builtin.Tuple.tupleIsExact (.ref t)) (wpAny_bind (wpAny_typeOf ht.typeIs (wpAny_pure ?_)))
 rw [if_pos (by decide)]
 refine wpAny_bind (wpAny_rule ?_)
 first
   | exact wpAny_pure ⟨_, rfl, wpAny_pure h⟩
   | exact wpAny_bind (wpAny_pure (wpAny_pure ⟨_, rfl, wpAny_pure h⟩))
end
end HT
namespace L2
open PySem PySem.Spec PyProof.Rows
section
variable {X : Cx}
noncomputable def cutT (xs : List T) (lo hi : Option Int) : List T := (xs.drop (HT.sIx xs.length 0 lo)).take (HT.sIx xs.length xs.length hi - HT.sIx xs.length 0 lo)
noncomputable def rSlT' (K : PySem.W.Frag) : V → Option Int → Option Int → Hp → VK → Prop := fun x lo hi H Q => ∃ a xs, x = .ref a ∧ SqT K H a xs ∧
 ∀ p H', SqT K H' p (cutV xs lo hi) → (H' = H ∨ H p = none ∧ H' = upd H p (.tup (cutV xs lo hi))) → Q (.ref p) H'
theorem sl_tup' : SlR X (rSlT' X.K) := by
 intro pins s σ H x v vl vu lo hi sl Q I rx hs pl pu h
 obtain ⟨a, xs, rfl, hx, q⟩ := h
 by_cases hw : HT.sIx xs.length 0 lo = 0 ∧ HT.sIx xs.length xs.length hi = xs.length
 · cases rx
   obtain ⟨its, r, ht, hz⟩ := I.tuple hx
   have hlen : its.toArray.size = xs.length := by rw [List.size_toArray]; exact r.length.symm
   refine ⟨"tuple", _, PyProof.Rows.slot_tuple_getitem.lookup, ht.typeIs, ?_⟩
   refine HT.getItem_tuple_all ht hs pl pu (by rw [hlen]; exact hw) ?_ (by rw [hlen]; exact hz)
   have e : cutV xs lo hi = xs := by
     unfold cutV
     rw [hw.1, hw.2]
     simp
   exact ⟨.ref a, H, I, rfl, q a H (by rw [e]; exact hx) (.inl rfl)⟩
 · exact sl_tup pins s σ H _ v vl vu lo hi sl Q I rx hs pl pu ⟨a, xs, rfl, hx, hw, fun p hp => q p _ (SqT.of upd_same) (.inr ⟨hp, rfl⟩)⟩
theorem Reps.cut {K : PySem.W.Frag} {H : Hp} {xs : List V} {ts : List T} (r : Reps K H xs ts) (lo hi : Option Int) : Reps K H (cutV xs lo hi) (cutT ts lo hi) := by
 unfold cutV cutT
 rw [r.length]
 exact (r.drop _).take _
noncomputable abbrev TO3 := En → MH → (Option Int → MH → Prop) → Prop
noncomputable def HPo (X : Cx) (e : Option Expr) (t : TO3) : Prop := ∀ ρ M Q, t ρ M Q → PO X e (fun σ H Q2 => RhoR X.K σ H ρ ∧ HR X.K H M ∧ ∀ o M' H', Kp X.K H H' → HR X.K H' M' → Q o M' → Q2 o H')
noncomputable def dPo (K : PySem.W.Frag) (ρ : En) (t : TO3) : TO := fun σ H Q2 => ∃ M Q, t ρ M Q ∧ RhoR K σ H ρ ∧ HR K H M ∧ ∀ o M' H', Kp K H H' → HR K H' M' → Q o M' → Q2 o H'
theorem HPo.d {e : Option Expr} {t : TO3} {ρ : En} (h : HPo X e t) : PO X e (dPo X.K ρ t) := fun pins s σ H Q I ⟨M, Q3, q, b⟩ => h ρ M Q3 q pins s σ H Q I b
theorem PO.imp {e : Option Expr} {w w' : TO} (h : PO X e w) (f : ∀ σ H Q, w' σ H Q → w σ H Q) : PO X e w' := fun pins s σ H Q I q => h pins s σ H Q I (f σ H Q q)
noncomputable def tNo3 : TO3 := fun ρ M Q => Q none M
noncomputable def tPt3 (t : TE3) : TO3 := fun ρ M Q => t ρ M fun x M1 => match x with
 | .int i => Q (some i) M1
 | _ => False
theorem o_none : HPo X none tNo3 := fun ρ M Q h => po_none.imp fun σ H Q2 ⟨hr, hh, en⟩ => en _ _ _ Kp.refl hh h
theorem o_some {e : Expr} {t : TE3} (he : HE X e t) : HPo X (some e) (tPt3 t) := fun ρ M Q h => (po_some (he.d (ρ := ρ))).imp fun σ H Q2 ⟨hr, hh, en⟩ =>
 ⟨M, _, h, hr, hh, fun x v M1 H1 k1 h1 r1 q1 => by
   dsimp only at q1
   split at q1
   · obtain rfl := inv_int r1
     exact ⟨_, rfl, en _ _ _ k1 h1 q1⟩
   · exact q1.elim⟩
noncomputable def rSlS : V → Option Int → Option Int → Hp → VK → Prop := fun x lo hi H Q => ∃ z, x = .str z ∧ z.length ≤ sizeLine ∧ Q (.str (Txt.slice z lo hi)) H
theorem sl_str : SlR X rSlS := by
 intro pins s σ H x v vl vu lo hi sl Q I rx hs pl pu h
 obtain ⟨z, rfl, hz, q⟩ := h
 obtain ⟨t, rfl⟩ := rx
 refine ⟨"str", _, F.slot_str_getitem.lookup, typeIs_str _ _ _, ?_⟩
 have fin : ∀ t' k, EP X pins σ Q (.str (Txt.slice z lo hi) t') { s with toks := k } := fun t' k => ⟨.str _, H, I.kept fun b o e => e, ⟨_, rfl⟩, q⟩
 have hl : (Txt.slice z lo hi).length ≤ sizeLine := Nat.le_trans (Txt.slice_le z _ _) hz
 cases pl with
 | none => cases pu with
   | none => exact wpAny_getItem_str_slice (l := none) (u := none) (st := none) hs rfl (post_val_or_str ⟨hl, fin⟩)
   | int j uj => exact wpAny_getItem_str_slice (l := none) (u := some (j, uj)) (st := none) hs rfl (post_val_or_str ⟨hl, fin⟩)
 | int i ui => cases pu with
   | none => exact wpAny_getItem_str_slice (l := some (i, ui)) (u := none) (st := none) hs rfl (post_val_or_str ⟨hl, fin⟩)
   | int j uj => exact wpAny_getItem_str_slice (l := some (i, ui)) (u := some (j, uj)) (st := none) hs rfl (post_val_or_str ⟨hl, fin⟩)
noncomputable def tSl3 (te : TE3) (tl th : TO3) : TE3 := fun ρ M Q => te ρ M fun x M1 => tl ρ M1 fun l M2 => th ρ M2 fun u M3 => match x with
 | .tup ts => Q (.tup (cutT ts l u)) M3
 | .adr p => (match M3 p with
   | some (.lst ts) => ∀ r, M3 r = none → Q (.adr r) (updM M3 r (.lst (cutT ts l u)))
   | _ => False)
 | .str z => z.length ≤ sizeLine ∧ Q (.str (Txt.slice z l u)) M3
 | _ => False
theorem h_slice {e : Expr} {lo hi : Option Expr} {te : TE3} {tl th : TO3} {pos p2 : Pos} (he : HE X e te) (hl : HPo X lo tl) (hu : HPo X hi th) : HE X (.Subscript e (.Slice lo hi none p2) pos) (tSl3 te tl th) := fun ρ M Q h =>
 (pe_slice ((sl_tup'.or sl_list).or sl_str) (he.d (ρ := ρ)) (hl.d (ρ := ρ)) (hu.d (ρ := ρ))).imp fun σ H Q2 ⟨hr, hh, en⟩ =>
   ⟨M, _, h, hr, hh, fun x v M1 H1 k1 h1 r1 q1 => ⟨M1, _, q1, hr.kp k1, h1, fun l M2 H2 k2 h2 q2 => ⟨M2, _, q2, hr.kp (k1.trans k2), h2, fun u M3 H3 k3 h3 q3 => by
     have r3 := Rep.kp (k2.trans k3) _ _ r1
     have k13 := (k1.trans k2).trans k3
     split at q3
     · rename_i ts
       obtain ⟨a, xs, rfl, g1, g2⟩ := inv_tup r3
       refine .inl (.inl ⟨a, xs, rfl, g1, fun p H' h' c => ?_⟩)
       rcases c with rfl | ⟨c1, rfl⟩
       · exact en _ _ _ _ k13 h3 (rep_tup h' (g2.cut l u)) q3
       · exact en _ _ _ _ (k13.trans (Kp.new c1)) (h3.keep c1) (rep_tup h' (Reps.kp (Kp.new c1) _ _ (g2.cut l u))) q3
     · obtain rfl := inv_adr r3
       split at q3
       · rename_i ts e0
         obtain ⟨xs, g1, g2⟩ := h3 _ _ e0
         refine .inl (.inr ⟨_, xs, rfl, SqL.of g1, fun p hp => ?_⟩)
         exact en _ _ _ _ (k13.trans (Kp.new hp)) (h3.newL hp (g2.cut l u)) rep_adr (q3 p (h3.free hp))
       · exact q3.elim
     · obtain rfl := inv_str r3
       exact .inr ⟨_, rfl, q3.1, en _ _ _ _ k13 h3 rep_str q3.2⟩
     · exact q3.elim⟩⟩⟩
theorem cutT_to (xs : List T) (k : Int) (h0 : 0 ≤ k) (h1 : k ≤ xs.length) : cutT xs none (some k) = xs.take k.toNat := by
 unfold cutT
 have e : k = ((k.toNat : Nat) : Int) := by lia
 rw [e, HT.sIx_nat, HT.sIx_none, List.drop_zero, Nat.sub_zero, Nat.min_eq_left (by lia), Int.toNat_natCast]
theorem cutT_from (xs : List T) (k : Int) (h0 : 0 ≤ k) (h1 : k ≤ xs.length) : cutT xs (some k) none = xs.drop k.toNat := by
 unfold cutT
 have e : k = ((k.toNat : Nat) : Int) := by lia
 rw [e, HT.sIx_nat, HT.sIx_none, Nat.min_eq_left (by lia), Int.toNat_natCast]
 exact List.take_of_length_le (by rw [List.length_drop]; exact Nat.le_refl _)
end
end L2
namespace HT
open PySem PySem.Spec PyProof.Rows
section
variable {prog : Program} {w : World} {A : Around} {E : Value → Shared → Prop} {s : Shared}
theorem sliceApplied_back {sl : Addr} {vk : Value} {n : Nat} {Q : Int × Int × Nat → Shared → Prop} (hs : s.heap.IsSliceOf sl .none .none vk) (pk : IsPart vk (some (-1)))
   (h : Q ((n : Int) - 1, -1, n) s) : wpAny (model prog w) A (Builtin.Slice.sliceApplied (.ref sl) (pure (n : Int))) Q E s := by
 obtain ⟨os, hos, hcs, hds⟩ := id hs
 unfold Builtin.Slice.sliceApplied Builtin.Slice.sliceFields
 refine wpAny_bind (wpAny_bind (wpAny_field hos hds (x := .none) rfl (wpAny_bind (wpAny_field hos hds (x := .none) rfl (wpAny_bind (wpAny_field hos hds (x := vk) rfl (wpAny_pure ?_)))))))
 refine wpAny_bind (slicePart_ pk ?_)
 show wpAny _ _ (if ((-1 : Int) == 0) = true then _ else _) _ _ s
 rw [if_neg (by decide)]
 refine wpAny_bind (slicePart_none (wpAny_bind (slicePart_none (wpAny_bind (wpAny_pure ?_)))))
 show wpAny _ _ (pure ((n : Int) - 1, (-1 : Int), Builtin.Slice.slicePlaces ((n : Int) - 1) (-1) (-1))) _ _ s
 have e : Builtin.Slice.slicePlaces ((n : Int) - 1) (-1) (-1) = n := by
   unfold Builtin.Slice.slicePlaces
   rw [if_neg (by decide)]
   by_cases h : (n : Int) - 1 > -1
   · rw [if_pos h]
     have : ((n : Int) - 1 - -1 - 1) / (- -1) = (n : Int) - 1 := by
       rw [show (- -1 : Int) = 1 by decide, Int.ediv_one]
       lia
     rw [this]; lia
   · rw [if_neg h]; lia
 rw [e]
 exact wpAny_pure h
theorem pick_back (xs : Array Value) : ((List.range xs.size).filterMap fun (m : Nat) => xs[((xs.size : Int) - 1 + (m : Int) * (-1)).toNat]?).toArray = xs.toList.reverse.toArray := by
 have h1 : ((List.range xs.size).filterMap fun (m : Nat) => xs[((xs.size : Int) - 1 + (m : Int) * (-1)).toNat]?) = (List.range xs.size).filterMap fun m => xs[xs.size - 1 - m]? := by
   congr 1
   funext m
   have : ((xs.size : Int) - 1 + (m : Int) * (-1)).toNat = xs.size - 1 - m := by lia
   rw [this]
 rw [h1]
 have h2 : ((List.range xs.size).filterMap fun m => xs[xs.size - 1 - m]?) = ((List.range xs.size).map fun m => xs.size - 1 - m).filterMap (xs[·]?) := by
   rw [List.filterMap_map]
   rfl
 rw [h2, PySem.W.krv_range, List.filterMap_reverse, PySem.W.krv_all]
theorem getItem_tuple_back {t sl : Addr} {items : Array Value} {vk : Value} {Q : Value → Shared → Prop} (ht : IsTup s.heap t items) (hs : s.heap.IsSliceOf sl .none .none vk) (pk : IsPart vk (some (-1)))
   (h : Q (.ref s.heap.objs.size) { s with heap := s.heap.push { cls := .type "tuple", data := .seq items.toList.reverse.toArray } })
   (hsz : items.size ≤ sizeLine) : wpAny (model prog w) A (getItem (.ref t) (.ref sl)) Q E s := by
 have htake : sizeOk (.seq items.toList.reverse.toArray) := by
   show items.toList.reverse.toArray.size ≤ sizeLine
   rw [List.size_toArray, List.length_reverse, Array.length_toList]
   exact hsz
 obtain ⟨os, hos, hcs, hds⟩ := id hs
 have hTs : s.TypeIs (.ref sl) "slice" := ⟨os, hos, hcs⟩
 unfold getItem
 try with_reducible refine wpAny_holding ?_
 first | refine wpAny_bind (wpAny_pure ?_) | skip
 refine wpAny_bind (wpAny_sequenceKey ht.typeIs (by decide) ?_)
 refine wpAny_bind (wpAny_callSpecial?_slot (name := Str.ofString "__getitem__") ht.typeIs PyProof.Rows.slot_tuple_getitem
   (wpAny_call_entry PyProof.Rows.slot_tuple_getitem ht.typeIs entry_tuple_getitem ?_ (args_tuple_getitem _ _)))
 show wpAny _ _ (Builtin.Tuple.tupleItemsOf (.ref t) >>= _) _ _ s
 refine wpAny_bind (tupleItemsOf_ ht ?_)
 refine wpAny_bind (wpAny_typeOf hTs ?_)
 rw [if_pos (by decide)]
 refine wpAny_bind (sliceApplied_back hs pk ?_)
 show wpAny _ _ (if ((items.size : Int) - 1 == 0 && (-1 : Int) == 1 && items.size == items.size) = true then _ else _) _ _ s
 rw [if_neg (by simp), pick_back]
 first
   | exact wpAny_bind (m := Builtin.Tuple.tupleExact _) (wpAny_newObj_type (wpAny_pure ⟨_, rfl, wpAny_pure h⟩) htake)
   | exact wpAny_bind (m := Builtin.Tuple.tupleExact _) (wpAny_newObj_type (wpAny_bind (wpAny_pure (wpAny_pure ⟨_, rfl, wpAny_pure h⟩))) htake)
   | exact wpAny_bind (wpAny_bind (m := Builtin.Tuple.tupleExact _) (wpAny_newObj_type (wpAny_pure (wpAny_pure ⟨_, rfl, wpAny_pure h⟩)) htake))
   | exact wpAny_bind (wpAny_bind (m := Builtin.Tuple.tupleExact _) (wpAny_newObj_type (wpAny_pure ⟨_, rfl, wpAny_pure h⟩) htake))
end
end HT
namespace L2
open PySem PySem.Spec PyProof.Rows
section
variable {X : Cx}
noncomputable def kRev3 (Q : VK3) (x : T) : Option Int → MH → Prop := fun k M2 => k = some (-1) ∧ match x with
 | .tup ts => Q (.tup ts.reverse) M2
 | .adr p => (match M2 p with
   | some (.lst ts) => ∀ r, M2 r = none → Q (.adr r) (updM M2 r (.lst ts.reverse))
   | _ => False)
 | _ => False
noncomputable def tRev3 (te : TE3) (tk : TO3) : TE3 := fun ρ M Q => te ρ M fun x M1 => tk ρ M1 (kRev3 Q x)
theorem h_rev {e k : Expr} {te tk : TE3} {pos p2 : Pos} (he : HE X e te) (hk : HE X k tk) (hops : ∀ a b, subscripted (.Slice none none (some k) p2) false a b = operate [a, b] (getItem a b) := by intro _ _; with_unfolding_all rfl) : HE X (.Subscript e (.Slice none none (some k) p2) pos) (tRev3 te (tPt3 tk)) := fun ρ M Q h => by
 intro pins s σ H Q2 I ⟨hr, hh, en⟩
 refine Subscript_ (thn (he.d (ρ := ρ) pins s σ H (fun v H1 => ∃ x M1, Kp X.K H H1 ∧ HR X.K H1 M1 ∧ Rep X.K H1 v x ∧ tPt3 tk ρ M1 (kRev3 Q x)) I ⟨M, _, h, hr, hh, fun x v M1 H1 k1 h1 r1 q1 => ⟨x, M1, k1, h1, r1, q1⟩⟩) fun v s1 ⟨x, H1, I1, r1, x', M1, k1, h1, rx, q1⟩ => ?_)
 refine wpAny_Slice ?_
 rw [evalPart_none]
 refine wpAny_pure (wpAny_pure ?_)
 refine thn ((o_some hk).d (ρ := ρ) pins s1 σ H1 (fun o H2 => ∃ M2, Kp X.K H1 H2 ∧ HR X.K H2 M2 ∧ kRev3 Q x' o M2) I1 ⟨M1, _, q1, hr.kp k1, h1, fun o M2 H2 k2 h2 q2 => ⟨M2, k2, h2, q2⟩⟩) fun vk s2 ⟨o, H2, I2, pk, M2, k2, h2, eo, q2⟩ => ?_
 subst eo
 have I4 : Inv X pins σ H2 { s2 with heap := s2.heap.push { cls := .type "slice", data := .fields #[.none, .none, vk] } } := I2.kept (t' := s2.toks) fun b ob q => Heap.get?_push_of_some _ q
 have r3 := Rep.kp k2 _ _ rx
 show wpAny (model X.prog X.w) X.A (subscriptTail e (.Slice none none (some k) p2) v (.ref s2.heap.objs.size)) (EP X pins σ Q2) X.xe { s2 with heap := s2.heap.push { cls := .type "slice", data := .fields #[.none, .none, vk] } }
 split at q2
 · rename_i ts
   obtain ⟨a, xs, rfl, g1, g2⟩ := inv_tup r3
   cases r1
   obtain ⟨its, r, ht, hz⟩ := I4.tuple g1
   have hlen := r.length
   refine tail_any (ops := [.ref a, .ref s2.heap.objs.size]) ht.typeIs PyProof.Rows.slot_tuple_getitem.lookup ?_ (hops _ _)
   refine HT.getItem_tuple_back ht (Heap.IsSliceOf.new ..) pk ?_ (by rw [List.size_toArray]; lia)
   have hp := I4.hok.fresh (Nat.le_refl _)
   refine ⟨.ref _, _, I4.laid (t' := s2.toks) (o := .tup xs.reverse) (fun b ob q => Heap.get?_push_of_some _ q) (Nat.le_refl _) ?_, rfl, en _ _ _ _ ((k1.trans k2).trans (Kp.new hp)) (h2.keep hp) (rep_tup (SqT.of upd_same) (Reps.kp (Kp.new hp) _ _ g2.reverse)) q2⟩
   exact ⟨by rw [List.length_reverse]; exact hz, _, r.reverse, IsTup0.new _ _⟩
 · obtain rfl := inv_adr r3
   cases r1
   split at q2
   · rename_i ts e0
     obtain ⟨xs, g1, g2⟩ := h2 _ _ e0
     obtain ⟨its, r, ht, hz⟩ := I4.list (SqL.of g1)
     have hlen := r.length
     refine tail_any (ops := [.ref _, .ref s2.heap.objs.size]) ht.isList.typeIs slot_list_getitem.lookup ?_ (hops _ _)
     refine wpAny_getItem_list_slice ht.isList (Heap.IsSliceOf.new ..) .none .none pk (by decide) ?_ (by rw [List.size_toArray]; lia)
     rw [PySem.W.krv_pick]
     have hp := I4.hok.fresh (Nat.le_refl _)
     refine ⟨.ref _, _, I4.laid (t' := s2.toks) (o := .lst xs.reverse) (fun b ob q => Heap.get?_push_of_some _ q) (Nat.le_refl _) ?_, rfl, en _ _ _ _ ((k1.trans k2).trans (Kp.new hp)) (h2.newL hp g2.reverse) rep_adr (q2 _ (h2.free hp))⟩
     exact ⟨by rw [List.length_reverse]; exact hz, _, 0, r.reverse, Heap.get?_push_size _ rfl⟩
   · exact q2.elim
 · exact q2.elim
end
end L2
namespace L2
open PySem PySem.Spec PyProof.Rows
section
variable {X : Cx}
end
end L2
namespace L2
open PySem PySem.Spec PyProof.Rows
section
variable {X : Cx}
end
end L2
namespace L2
open PySem PySem.Spec PyProof.Rows
section
variable {X : Cx}
end
end L2
namespace L2
open PySem PySem.Spec PyProof.Rows
section
variable {X : Cx} {es : List Expr} {e : Expr} {t : TA3}
end
end L2
namespace L2
open PySem PySem.Spec PyProof.Rows
section
variable {X : Cx} {es : List Expr} {e : Expr} {t : TA3}
noncomputable def strsT : List T → Option (List Str)
 | [] => some []
 | .str i :: ts => (strsT ts).map (i :: ·)
 | _ :: _ => none
theorem strsT_map : ∀ (ns : List Str), strsT (ns.map T.str) = some ns
 | [] => rfl
 | n :: ns => by show (strsT (ns.map T.str)).map (n :: ·) = _; rw [strsT_map ns]; rfl
end
end L2
namespace L2
open PySem PySem.Spec PyProof.Rows LM
end L2
namespace L2
open PySem PySem.Spec PyProof.Rows
section
variable {prog : Program} {w : World} {A : Around} {E : Value → Shared → Prop} {s : Shared}
theorem iadd_rangeL {R : Result → Shared → Prop} {S r : Addr} {a b c : Int} {t u v : Tok} {n : Nat} (hh : A.handled = none) (hr : IsRange s.heap r a b c t u v) (hsmall : Builtin.Range.small a b c = true)
   (hn : Builtin.Range.rangeSize a b c = n) (hlen : n ≤ 2 ^ 24) (hS : s.heap.get? S = some { cls := .type "list", data := .seq #[] 0 })
   (hR : ∀ (h' : Heap) (tk : Tok) (acc' : Array Value) (c' : Nat), (∀ b o, b ≠ S → s.heap.get? b = some o → h'.get? b = some o) → h'.get? S = some { cls := .type "list", dict := none, data := .seq acc' c', slots := #[] } →
     ItemsOf (fun i v => ∃ t, v = .int (a + i * c) t) acc' n → R (.ok (.ret (.ref S))) { s with heap := h', toks := tk }) :
   codeAny (model prog w) A (.builtin "list.__iadd__" ⟨[.ref S, .ref r], []⟩) R s := by
 refine codeAny_builtin F.entry_list_iadd ?_
 rw [Around.under_plainId F.plain_list_iadd _]
 show wpAny _ A.in1 (Builtin.List.listExtendWith (.ref S) (.ref r) (.ref S)) _ _ _
 exact wpAny_extend_range hh hr hsmall hn hlen S (.ref S) 0 hS hR
theorem collect_rangeL {Q : List Value → Shared → Prop} {r : Addr} {a b c : Int} {t u v : Tok} {n : Nat} (hh : A.handled = none) (hr : IsRange s.heap r a b c t u v) (hsmall : Builtin.Range.small a b c = true)
   (hn : Builtin.Range.rangeSize a b c = n) (hlen : n ≤ 2 ^ 24)
   (hQ : ∀ (h' : Heap) (tk : Tok) (acc' : Array Value), (∀ b o, s.heap.get? b = some o → h'.get? b = some o) → ItemsOf (fun i v => ∃ t, v = .int (a + i * c) t) acc' n → Q acc'.toList { s with heap := h', toks := tk }) :
   wpAny (model prog w) A (collect (.ref r)) Q E s := by
 unfold collect
 refine wpAny_bind (wpAny_runValue (codeAny_builtin F.entry_proto_collect ?_))
 rw [Around.under_plainId F.plain_proto_collect _]
 show wpAny _ A.in1 (newList [] >>= fun l => again (.builtin "list.__iadd__" ⟨[l, .ref r], []⟩)) _ _ s
 refine wpAny_bind (wpAny_newObj_type ?_)
 have hS₁ : (s.heap.push { cls := .type "list", data := .seq ([] : List Value).toArray }).get? s.heap.objs.size = some { cls := .type "list", data := .seq #[] } := Heap.get?_push_size _ rfl
 refine wpAny_pure ⟨plainId_quiet F.plain_list_iadd _, iadd_rangeL (s := { s with heap := s.heap.push { cls := .type "list", data := .seq ([] : List Value).toArray } }) hh (Heap.get?_push_of_some _ hr) hsmall hn hlen hS₁ fun h' tk acc' c' hk hS hacc => ?_⟩
 show wpAny _ A (load s.heap.objs.size >>= _) _ _ _
 refine wpAny_bind (wpAny_load hS ?_)
 exact wpAny_pure (hQ h' tk acc' (fun b o e => hk b o (Nat.ne_of_lt (Heap.lt_size e)) (Heap.get?_push_of_some _ e)) hacc)
theorem code_tuple_new_range {Q₁ : Value → Shared → Prop} {r : Addr} {a b c : Int} {t u v : Tok} {n : Nat} (hh : A.handled = none) (hr : IsRange s.heap r a b c t u v) (hsmall : Builtin.Range.small a b c = true)
   (hn : Builtin.Range.rangeSize a b c = n) (hlen : n ≤ 2 ^ 24)
   (h : ∀ (h' : Heap) (tk : Tok) (acc : Array Value), (∀ b o, s.heap.get? b = some o → h'.get? b = some o) → ItemsOf (fun i v => ∃ t, v = .int (a + i * c) t) acc n → Q₁ (.ref h'.objs.size) { s with heap := h'.push { cls := .type "tuple", data := .seq acc }, toks := tk }) :
   codeAny (model prog w) A (.call (.builtin "tuple.__new__") ⟨[.type "tuple", .ref r], []⟩) (wants Q₁ E) s := by
 refine codeAny_of_tree ?_
 show wpAny _ A.in1 (do checkBuiltinCall "tuple.__new__" ⟨[.type "tuple", .ref r], []⟩; again (.builtin "tuple.__new__" ⟨[.type "tuple", .ref r], []⟩)) _ _ s
 refine wpAny_bind (wpAny_of_eq (F.newCall_tuple_1 _) (wpAny_pure ⟨plainId_quiet F.plain_tuple_new _, codeAny_builtin F.entry_tuple_new ?_⟩))
 rw [Around.under_plainId F.plain_tuple_new _]
 have hsub := sub_tuple_self
 have hinit := init_tuple_lookup
 have hmh := madeHere_tuple
 have hTI : s.TypeIs (.ref r) "range" := ⟨_, hr, rfl⟩
 wp_walk using wpAny_typeOf hTI, collect_rangeL (n := n) (A := A.in1) hh hr hsmall hn hlen
 intro h' tk acc hk hacc
 show wpAny _ _ (Builtin.Tuple.tupleExact acc.toList.toArray >>= fun v => ret v) _ _ _
 unfold Builtin.Tuple.tupleExact
 refine wpAny_bind (wpAny_newObj_type ?_ (by show acc.toList.toArray.size ≤ sizeLine; simp only [Array.toArray_toList]; rw [hacc.1, sizeLine_eq]; lia))
 refine wpAny_pure ?_
 have e : acc.toList.toArray = acc := by simp
 rw [e]
 exact h h' tk acc hk hacc
theorem call_tuple_rangeL {Q : Value → Shared → Prop} {r : Addr} {a b c : Int} {t u v : Tok} {n : Nat} (hh : A.handled = none) (hr : IsRange s.heap r a b c t u v) (hsmall : Builtin.Range.small a b c = true)
   (hn : Builtin.Range.rangeSize a b c = n) (hlen : n ≤ 2 ^ 24)
   (hQ : ∀ (h' : Heap) (tk : Tok) (acc : Array Value), (∀ b o, s.heap.get? b = some o → h'.get? b = some o) → ItemsOf (fun i v => ∃ t, v = .int (a + i * c) t) acc n → Q (.ref h'.objs.size) { s with heap := h'.push { cls := .type "tuple", data := .seq acc }, toks := tk }) :
   wpAny (model prog w) A (call (.type "tuple") [.ref r]) Q E s := by
 refine callType_codes (Q₁ := fun obj s₁ => s₁.TypeIs obj "tuple" ∧ Q obj s₁) F.called_tuple (F.typeCall_tuple_1 _) F.entry_object_init
   (code_tuple_new_range (A := A.in1) (Q₁ := fun obj s₁ => s₁.TypeIs obj "tuple" ∧ Q obj s₁) hh hr hsmall hn hlen fun h' tk acc hm hacc => ⟨⟨_, Heap.get?_push_size _ rfl, rfl⟩, hQ h' tk acc hm hacc⟩) fun obj s₁ h₁ => ?_
 exact ⟨h₁.1, F.args_object_init_2 obj _, object_init_meets F.called_tuple.init.lookup F.called_tuple.made (by decide) prog w A.in1 _ s₁ ⟨h₁.1, rfl, h₁.2⟩⟩
end
section
open AutoSeq1 (wpAny_loadPart')
open SeqAt (EqAt)
theorem wpAny_forIn_rng {M : Model} {A : Around} {E : Value → Shared → Prop} {s : Shared} {β : Type} (f : Nat → β → Sem (ForInStep β)) (I : List Nat → β → Shared → Prop) (Q : β → Shared → Prop)
   (turn : ∀ x rest b s, I (x :: rest) b s → wpAny M A (f x b) (fun r s' => match r with | .yield b' => I rest b' s' | .done b' => Q b' s') E s)
   (fin : ∀ b s, I [] b s → Q b s) (r : Std.Legacy.Range) (b : β) (h : I (List.range' r.start r.size r.step) b s) : wpAny M A (forIn r b f) Q E s := by
 rw [Std.Legacy.Range.forIn_eq_forIn_range']
 exact wpAny_forIn_list f I Q turn fin _ b h
theorem tuple_indexAt (l : Addr) (items : Array Value) (n : Nat) (dd : Option Addr) (sl : Array (Option Value)) (x : Value) (e : Value → Bool) (j : Nat) (hj : j < items.size) (hit : e items[j] = true) (hno : ∀ m (hm : m < items.size), m < j → e items[m] = false) :
   Meets (Builtin.«tuple.index» ⟨[.ref l, x], []⟩)
     (fun A R s => s.heap.get? l = some { cls := .type "tuple", dict := dd, data := .seq items n, slots := sl } ∧ (∀ y, y ∈ items → EqAt A.in1 s y x (e y)) ∧ R (.ok (.ret (.int j s.toks))) { s with toks := s.toks + 1 }) :=
 .of_wp fun prog w A R s h => by
   obtain ⟨hp, g, d, tk, os⟩ := s; obtain ⟨hl, he, h⟩ := h
   wp_walk using wpAny_loadPart' hl, wpAny_forIn_rng _ (fun rest b s' => b.1 = none ∧ s' = ⟨hp, g, d, tk, os⟩ ∧ ∃ i, i ≤ j ∧ rest = List.range' i (items.size - i)) _
   case turn =>
     rintro y rest b s' ⟨hb, rfl, i, hij, hr⟩
     have hsz : items.size - i = (items.size - (i + 1)) + 1 := by lia
     rw [hsz, List.range'_succ] at hr
     injection hr with hy hr
     subst hy
     have hys : y < items.size := by lia
     rw [Array.getElem?_eq_getElem hys]
     refine wpAny_bind (he items[y] (Array.getElem_mem hys) prog w _ _ ?_)
     by_cases hyj : y = j
     · subst hyj
       rw [hit]
       wp_walk
       exact ⟨_, rfl, h⟩
     · rw [hno y hys (by lia)]
       wp_walk
       exact ⟨rfl, rfl, y + 1, by lia, hr⟩
   case fin =>
     rintro ⟨b1, b2⟩ s' ⟨hb, rfl, i, hij, hr⟩
     exfalso
     have : (List.range' i (items.size - i)).length = 0 := by rw [← hr]; rfl
     rw [List.length_range'] at this
     lia
   case h =>
     refine ⟨rfl, rfl, 0, Nat.zero_le _, ?_⟩
     simp [Std.Legacy.Range.size]
end
section
variable {X : Cx} {a b e : Expr} {es : List Expr} {ta te : TE3} {t : TA3} {pos : Pos}
noncomputable def tTRng1 (t : TA3) : TE3 := fun ρ M Q => t ρ M fun xs M1 => match xs with
 | [.int j] => (-(2 ^ 62) ≤ j ∧ j < 2 ^ 24) ∧ Q (.tup (rangeT 0 j.toNat)) M1
 | _ => False
theorem h_tupRange1 {t : TA3} {p p' pos' : Pos} (hm : X.mg "tuple" = none) (hm' : X.mg "range" = none) (ha : HA X [a] t) (hc : X.calm = true := by rfl) (hg : Gl X "tuple" := by rfl) (hg' : Gl X "range" := by rfl) (hs : starEach [a] X.env = [(false, eval a X.env)] := by rfl)
   (he : starEach [.Call (.Name "range" p') [a] [] pos'] X.env = (false, eval (.Call (.Name "range" p') [a] [] pos') X.env) :: starEach [] X.env := by rfl) :
   HE X (.Call (.Name "tuple" p) [.Call (.Name "range" p') [a] [] pos'] [] pos) (tTRng1 t) := by
 intro ρ M Q h pins s σ H Q2 I bb
 obtain ⟨hr, hh, en⟩ := bb
 refine wpAny_Call_Name_kw (ld_blt I hg hm boot_tuple ?_ (by decide) (by decide))
 refine PyProof.Rows.callWith_type1 ?_ he rfl
 rw [he]
 refine Calls.spliced_cons ?_
 refine Call_ (ld_blt I hg' hm' boot_range (PyProof.Rows.callWith_type1 (thn (ha ρ M _ h pos' pins s σ H (fun vs H1 => ∃ j M1, vs = [V.int j] ∧ HR X.K H1 M1 ∧ Kp X.K H H1 ∧ (-(2 ^ 62) ≤ j ∧ j < 2 ^ 24) ∧ Q (.tup (rangeT 0 j.toNat)) M1) I
   ⟨hr, hh, fun ts vs M1 H1 k1 h1 r1 q1 => by
     dsimp only at q1
     split at q1
     · rename_i j
       obtain ⟨v, rfl, rv⟩ := reps1 r1
       obtain rfl := inv_int rv
       exact ⟨j, M1, rfl, h1, k1, q1.1, q1.2⟩
     · exact q1.elim⟩) fun us s1 ⟨vs, H1, I1, rv, j, M1, e1, h1, k1, hj, q1⟩ => ?_) hs rfl))
 subst e1
 obtain ⟨u, rfl, t', rfl⟩ := vals1 rv
 refine call_range_1 (Calls.spliced_nil ?_)
 have I2 : Inv X pins σ H1 { s1 with heap := s1.heap.push { cls := .type "range", data := .fields #[.int 0 s1.toks, .int j t', .int 1 (s1.toks + 1)] }, toks := s1.toks + 2 } := I1.kept fun b o e => Heap.get?_push_of_some _ e
 have hn : Builtin.Range.rangeSize 0 j 1 = ((j.toNat : Nat) : Int) := by rw [rangeSize_one]; split <;> lia
 refine call_tuple_rangeL (I1.ok.hd hc) (IsRange.new ..) (small_one (by lia) (by lia) (by lia) (by lia)) hn (by lia) fun h' tk acc' kp ito => ?_
 have hz : j.toNat ≤ sizeLine := by rw [sizeLine_eq]; lia
 have vr : Vals (rangeV 0 j.toNat) acc'.toList := by
   refine vals_of_get (by unfold rangeV; simp [ito.1]) fun i x ex => ?_
   have hi : i < j.toNat := by have := (List.getElem?_eq_some_iff.mp ex).1; simpa [rangeV] using this
   have hi' : i < acc'.size := by rw [ito.1]; exact hi
   have ea : acc'[i]? = some acc'[i] := Array.getElem?_eq_getElem hi'
   obtain ⟨tt, et⟩ := ito.2 i _ ea
   refine ⟨acc'[i], by rw [Array.getElem?_toList]; exact ea, ?_⟩
   unfold rangeV at ex
   rw [List.getElem?_map, List.getElem?_range hi] at ex
   have := Option.some.inj ex
   subst this
   exact ⟨tt, by rw [et, Int.mul_one]⟩
 have I2' : Inv X pins σ H1 { s1 with heap := h', toks := tk } := I2.kept (h' := h') (t' := tk) kp
 have eacc : acc'.toList.toArray = acc' := by simp
 have I3 : Inv X pins σ (upd H1 h'.objs.size (.tup (rangeV 0 j.toNat))) { s1 with heap := h'.push { cls := .type "tuple", data := .seq acc' }, toks := tk } :=
   I2'.laid (t' := tk) (fun b o e => Heap.get?_push_of_some _ e) (Nat.le_refl _) (show ObjOk X.prog X.w _ _ _ (.tup (rangeV 0 j.toNat)) from
     ⟨by unfold rangeV; simpa using hz, acc'.toList, vr, by rw [eacc]; exact IsTup0.new _ _⟩)
 have hf := I2'.hok.fresh (Nat.le_refl _)
 have nw := Kp.new (K := X.K) (H := H1) (o := .tup (rangeV 0 j.toNat)) hf
 exact ⟨.ref h'.objs.size, _, I3, rfl, en _ _ _ _ (k1.trans nw) (h1.keep hf) (rep_tup (SqT.of upd_same) (rangeV_reps 0 j.toNat)) q1⟩
noncomputable def isSeq (M : MH) (x : T) : Prop := match x with
 | .adr p => (match M p with | some (.lst _) => True | _ => False)
 | .tup _ => True
 | _ => False
noncomputable def rIdxS : RM3 := fun x xs M Q => match x, xs with
 | .adr p, [.int k] => (match M p with
   | some (.lst ts) => (match intsT ts with | some ns => k ∈ ns ∧ Q (.int (ns.idxOf k)) M | none => False)
   | _ => False)
 | .tup ts, [.int k] => (match intsT ts with | some ns => k ∈ ns ∧ Q (.int (ns.idxOf k)) M | none => False)
 | _, _ => False
theorem mt3_tindex (pins : List (Addr × Obj)) (s : Shared) (σ : St) (H : Hp) (v : V) (k : Int) (u : Value) (us : List Value) (ns : List Int) (M : MH) (Q : VK3) (Q2 : VK) (I : Inv X pins σ H s) (rv : RelV v u) (rvs : Vals [.int k] us) (r1 : Rep X.K H v (.tup (ns.map T.int))) (hh : HR X.K H M)
   (en : EndE X.K H Q Q2) (hk : k ∈ ns) (q : Q (.int (ns.idxOf k)) M) : wpAny (model X.prog X.w) X.A (call (.builtin "tuple.index") (u :: us)) (EP X pins σ Q2) X.xe s := by
 obtain ⟨p, ys, rfl, g1, g2⟩ := inv_tup r1
 obtain rfl := g2.ints
 cases rv
 obtain ⟨w', rfl, tk, rfl⟩ := vals1 rvs
 obtain ⟨its, r', pl, hz⟩ := I.tuple0 g1
 have hl := r'.length
 rw [List.length_map] at hl hz
 obtain ⟨o, eo, ec, edd, n, ed⟩ := id pl
 obtain ⟨cls, dd, data, sl⟩ := o
 simp only at ec edd ed
 subst ec edd ed
 have hk' : ns.idxOf k < ns.length := List.idxOf_lt_length_iff.mpr hk
 have item : ∀ (j : Nat) (hj : j < its.toArray.size), ∃ tk', its.toArray[j] = Value.int (ns[j]'(by rw [List.size_toArray, ← hl] at hj; exact hj)) tk' := fun j hj => by
   have hj' : j < ns.length := by rw [List.size_toArray, ← hl] at hj; exact hj
   obtain ⟨w2, e2, tk', rfl⟩ := r'.get (i := j) (x := V.int ns[j]) (by rw [List.getElem?_map, List.getElem?_eq_getElem hj'] <;> rfl)
   have : its[j]? = some its.toArray[j] := by rw [List.getElem?_eq_getElem (by rw [List.size_toArray] at hj; exact hj)] <;> simp
   rw [e2] at this
   exact ⟨tk', (Option.some.inj this).symm⟩
 let ee : Value → Bool := fun v => match v with | .int i _ => i == k | _ => false
 refine call_meets PySem.F.slot_tuple_index ⟨_, eo, rfl⟩ PySem.F.entry_tuple_index (PySem.F.args_tuple_index_2 _ _)
   (tuple_indexAt p its.toArray n none sl (.int k tk) ee (ns.idxOf k) (by rw [List.size_toArray, ← hl]; exact hk') ?_ ?_) ⟨eo, fun y hy => ?_, ?_⟩
 · obtain ⟨tk', e⟩ := item (ns.idxOf k) (by rw [List.size_toArray, ← hl]; exact hk')
   rw [e]
   show (ns[ns.idxOf k] == k) = true
   simp
 · intro m hm hlt
   obtain ⟨tk', e⟩ := item m hm
   rw [e]
   show (ns[m]'_ == k) = false
   have := List.not_of_lt_findIdx (p := (· == k)) (xs := ns) (i := m) (by simpa [List.idxOf] using hlt)
   simpa using this
 · obtain ⟨j, hj, rfl⟩ := Array.getElem_of_mem hy
   obtain ⟨tk', e⟩ := item j hj
   rw [e]
   exact SeqAt.EqAt.int_int _ _ _ _
 · exact ⟨.int (ns.idxOf k), H, I.tok _, ⟨_, rfl⟩, en _ _ M H Kp.refl hh rep_int q⟩
noncomputable def tLMS (to : TE3) (t : TA3) : TE3 := fun ρ M Q => to ρ M fun x M1 => isSeq M1 x ∧ t ρ M1 fun xs M2 => rIdxS x xs M2 Q
theorem h_m_index {o : Expr} {to : TE3} {apos cpos : Pos} (ho : HE X o to) (ha : HA X (e :: es) t)
   (hbase : attributeBase o "index" X.env (eval o X.env) = eval o X.env := by rfl)
   (hfew : ((backTo cpos (starEach (e :: es) X.env)).all (fun x => !x.1) && (backToKw cpos (keywordEach [] X.env)).all (fun x => x.1.isSome)
     && decide ((e :: es).length + ([] : List Keyword).length + (if ([] : List Keyword).isEmpty then 0 else 1) < 30)) = true := by rfl)
   (hline : (apos.endLine == cpos.line) = true := by rfl) (hs : starEach (e :: es) X.env = (false, eval e X.env) :: starEach es X.env := by rfl) (hplain : (backTo cpos (starEach es X.env)).any (·.1) = false := by rfl) :
   HE X (.Call (.Attribute o "index" apos) (e :: es) [] cpos) (tLMS to t) := by
 intro ρ M Q h pins s σ H Q2 I bb
 obtain ⟨hr, hh, en⟩ := bb
 refine wpAny_Call_method_late hbase hfew hline rfl (thn (ho ρ M _ h pins s σ H (fun v H1 => ∃ x M1, Rep X.K H1 v x ∧ HR X.K H1 M1 ∧ Kp X.K H H1 ∧ isSeq M1 x ∧ t ρ M1 fun xs M2 => rIdxS x xs M2 Q) I
   ⟨hr, hh, fun x v M1 H1 k1 h1 r1 q1 => ⟨x, M1, r1, h1, k1, q1.1, q1.2⟩⟩) fun v s1 ⟨vv, H1, I1, rvv, x, M1, r1, h1, k1, sq, q1⟩ => ?_)
 have hA := ha ρ M1 _ q1 cpos pins s1 σ H1
 cases x with
 | adr p =>
   have ty : tyV X.K "list" vv H1 := isLst_ty h1 r1 sq
   obtain ⟨t1, t2⟩ := tyV_is I1 rvv ty
   refine ⟨"list", "list.index", PySem.F.plainAttrs_list, PySem.F.slot_list_index, PySem.F.type_list_index, t1, t2, ?_⟩
   have hB := hA (fun vs H2 => ∃ xs M2, Reps X.K H2 vs xs ∧ HR X.K H2 M2 ∧ Kp X.K H1 H2 ∧ rIdxS (.adr p) xs M2 Q) I1 ⟨hr.kp k1, h1, fun ts vs M2 H2 k2 h2 r2 q2 => ⟨ts, M2, r2, h2, k2, q2⟩⟩
   rw [hs] at hB ⊢
   refine Calls.callWith_builtin (by show (false || (backTo cpos (starEach es X.env)).any (·.1)) = false; rw [hplain] <;> rfl) (Calls.evalArgs_plain ?_)
   refine thn hB fun us s2 ⟨vs, H2, I2, rvs, xs, M2, r2, h2, k2, q2⟩ => ?_
   have q3 : rIndex3 (.adr p) xs M2 Q := by
     unfold rIdxS at q2
     split at q2
     · rename_i h; cases h; exact q2
     · rename_i h; cases h
     · exact q2.elim
   exact mt3_index pins s2 σ H2 vv vs v us Q2 I2 rvv rvs ⟨.adr p, xs, M2, Q, Rep.kp k2 _ _ r1, r2, h2, q3, en.kp (k1.trans k2)⟩
 | tup ts =>
   obtain ⟨a1, ys, rfl, g1, g2⟩ := inv_tup r1
   have eu : v = .ref a1 := by cases rvv; rfl
   obtain ⟨its, _, ⟨oo, eo, ec, ed, _⟩, _⟩ := I1.tuple0 g1
   refine ⟨"tuple", "tuple.index", PySem.F.plainAttrs_tuple, PySem.F.slot_tuple_index, PySem.F.type_tuple_index, ?_, ?_, ?_⟩
   · rw [eu]; exact ⟨oo, eo, ec⟩
   · intro a2 e2
     rw [eu] at e2
     cases e2
     exact ⟨oo, eo, ed⟩
   have hB := hA (fun vs H2 => ∃ xs M2, Reps X.K H2 vs xs ∧ HR X.K H2 M2 ∧ Kp X.K H1 H2 ∧ rIdxS (.tup ts) xs M2 Q) I1 ⟨hr.kp k1, h1, fun ts vs M2 H2 k2 h2 r2 q2 => ⟨ts, M2, r2, h2, k2, q2⟩⟩
   rw [hs] at hB ⊢
   refine Calls.callWith_builtin (by show (false || (backTo cpos (starEach es X.env)).any (·.1)) = false; rw [hplain] <;> rfl) (Calls.evalArgs_plain ?_)
   refine thn hB fun us s2 ⟨vs, H2, I2, rvs, xs, M2, r2, h2, k2, q2⟩ => ?_
   unfold rIdxS at q2
   split at q2
   · rename_i h; cases h
   · rename_i ts' k h
     cases h
     obtain ⟨w, rfl, rw'⟩ := reps1 r2
     obtain rfl := inv_int rw'
     split at q2
     · rename_i ns en'
       have et := intsT_some en'
       subst et
       exact mt3_tindex pins s2 σ H2 _ k v us ns M2 Q Q2 I2 rvv rvs (Rep.kp k2 _ _ r1) h2 (en.kp (k1.trans k2)) q2.1 q2.2
     · exact q2.elim
   · exact q2.elim
 | _ => exact sq.elim
end
end L2
namespace L2
open PySem PySem.Spec PyProof.Rows
section
open AutoSeq1
theorem extend_tupleL (l : Addr) (items : Array Value) (n : Nat) (b : Addr) (items2 : Array Value) (n2 : Nat) (sl : Array (Option Value)) (hs0 : ¬(!items.isEmpty && Builtin.List.listTooLong (items.size + items2.size)) = true) (hs1 : items.size ≤ sizeLine) (hs2 : items.size + items2.size ≤ sizeLine + 1) :
   Meets (Builtin.«list.extend» ⟨[.ref l, .ref b], []⟩) (fun _ R s => s.heap.get? l = some { cls := .type "list", dict := none, data := .seq items n, slots := #[] } ∧ s.heap.get? b = some { cls := .type "tuple", dict := none, data := .seq items2 n2, slots := sl } ∧ R (.ok (.ret Value.none)) { s with heap := s.heap.update l (Obj.mapSeq fun x => x ++ items2), toks := s.toks }) :=
 .of_wp fun prog w A R s h => by
   obtain ⟨hp, g, d, tk, os⟩ := s; obtain ⟨hl, hb, h⟩ := h; have f1 := idx_int; have f2 := AutoSeq1.sub_tuple_tuple; have f3 := AutoSeq1.sub_list_list; have f4 := AutoSeq1.sub_tuple_list; have f5 := AutoSeq1.sub_list_tuple;
   have hz' : (items ++ items2).size ≤ sizeLine + 1 := by rw [Array.size_append]; exact hs2
   wp_walk using (wpAny_updateSeq hl rfl (hz := hs1) (_hz' := hz')), wpAny_loadPart' hl, wpAny_loadPart' hb; exact ⟨_, rfl, h⟩
end
section
variable {X : Cx} {a b e f : Expr} {es : List Expr} {ta te : TE3} {t : TA3} {pos : Pos}
noncomputable def rExt3 : RM3 := fun x xs M Q => match x, xs with
 | .adr p, [.tup us] => (match M p with | some (.lst ts) => ts.length + us.length ≤ sizeLine ∧ Q .non (updM M p (.lst (ts ++ us))) | _ => False)
 | .adr p, [.adr q] => (match M p, M q with | some (.lst ts), some (.lst us) => ts.length + us.length ≤ sizeLine ∧ Q .non (updM M p (.lst (ts ++ us))) | _, _ => False)
 | _, _ => False
theorem mt3_extend : MtR3 X "list.extend" rExt3 := by
 intro pins s σ H v vs u us Q2 I rv rvs h
 obtain ⟨x, xs, M, Q, r1, r2, hh, q, en⟩ := h
 unfold rExt3 at q
 split at q
 · rename_i p ys
   split at q
   · rename_i ts e0
     obtain ⟨zs, g1, g2⟩ := hh _ _ e0
     obtain rfl := inv_adr r1
     obtain ⟨w, rfl, rw'⟩ := reps1 r2
     obtain ⟨b1, ws, rfl, k1, k2⟩ := inv_tup rw'
     cases rv
     obtain ⟨u2, rfl, ru⟩ := rvs.one
     cases ru
     obtain ⟨z, its, n, r, hl, e⟩ := I.lstM g1
     obtain ⟨its2, r2', ⟨o, eo, ec, ed, n2, edd⟩, hz2⟩ := I.tuple0 k1
     obtain ⟨cls, dd, data, sl⟩ := o
     simp only at ec ed edd
     subst ec ed edd
     have l2 := r2'.length
     have l3 := g2.length
     have l4 := k2.length
     have hsz : its.toArray.size + its2.toArray.size ≤ sizeLine := by rw [List.size_toArray, List.size_toArray]; lia
     have hlong : ¬ (!its.toArray.isEmpty && Builtin.List.listTooLong (its.toArray.size + its2.toArray.size)) = true := by
       rw [notLongL hsz, Bool.and_false]
       exact Bool.false_ne_true
     refine call_meets F.slot_list_extend ⟨_, e, rfl⟩ F.entry_list_extend (F.args_list_extend_2 _ _)
       (extend_tupleL p its.toArray n b1 its2.toArray n2 sl hlong (by rw [List.size_toArray]; lia) (by lia)) ⟨e, eo, ?_⟩
     refine ⟨.non, _, I.lset (its' := its ++ its2) g1 e (by simp) (r.append r2') ?_, rfl, en _ _ _ _ (Kp.lst g1) (hh.setL g1 (g2.append k2)) rep_non q.2⟩
     rw [List.length_append]
     lia
   · exact q.elim
 · rename_i p b1
   split at q
   · rename_i ts us' e0 e1
     obtain ⟨zs, g1, g2⟩ := hh _ _ e0
     obtain ⟨ws, k1, k2⟩ := hh _ _ e1
     obtain rfl := inv_adr r1
     obtain ⟨w, rfl, rw'⟩ := reps1 r2
     obtain rfl := inv_adr rw'
     have l3 := g2.length
     have l4 := k2.length
     exact mt_extend pins s σ H _ _ u us Q2 I rv rvs ⟨_, _, zs, ws, rfl, rfl, g1, k1, by lia, en _ _ _ _ (Kp.lst g1) (hh.setL g1 (g2.append k2)) rep_non q.2⟩
   · exact q.elim
 · exact q.elim
theorem h_m_extend {o : Expr} {to : TE3} {apos cpos : Pos} (ho : HE X o to) (ha : HA X (e :: es) t)
   (hbase : attributeBase o "extend" X.env (eval o X.env) = eval o X.env := by rfl)
   (hfew : ((backTo cpos (starEach (e :: es) X.env)).all (fun x => !x.1) && (backToKw cpos (keywordEach [] X.env)).all (fun x => x.1.isSome)
     && decide ((e :: es).length + ([] : List Keyword).length + (if ([] : List Keyword).isEmpty then 0 else 1) < 30)) = true := by rfl)
   (hline : (apos.endLine == cpos.line) = true := by rfl) (hs : starEach (e :: es) X.env = (false, eval e X.env) :: starEach es X.env := by rfl) (hplain : (backTo cpos (starEach es X.env)).any (·.1) = false := by rfl) :
   HE X (.Call (.Attribute o "extend" apos) (e :: es) [] cpos) (tLM3 rExt3 to t) := h_lm PySem.F.slot_list_extend PySem.F.type_list_extend mt3_extend ho ha hbase hfew hline hs hplain
end
end L2
namespace L2
open PySem PySem.Spec PyProof.Rows LM
noncomputable def swapN (st : List Int) (k : Nat) : List Int := (st.set k (st.getD (k + 1) 0)).set (k + 1) (st.getD k 0)
theorem swapN_cut (st : List Int) (k : Nat) (h : k + 1 < st.length) : st.take k ++ ([st.getD (k + 1) 0, st.getD k 0] ++ st.drop (k + 2)) = swapN st k := by
 unfold swapN
 induction st generalizing k with
 | nil => simp at h
 | cons x t ih =>
   cases k with
   | zero =>
     cases t with
     | nil => simp at h
     | cons y t => rfl
   | succ k =>
     have := ih k (by simp at h; lia)
     simp only [List.take_succ_cons, List.cons_append, List.drop_succ_cons, List.set_cons_succ, List.getD_cons_succ] at this ⊢
     rw [← this]
noncomputable def isWd (n : Int) (w : List Int) (k : Int) : Bool := decide (1 ≤ n) && decide (n ≤ 6) && decide ((w.length : Int) ≤ k) && w.all (isLet n)
theorem isWd_16 (n : Int) (w : List Int) : isWd n w 16 = isPl n w := by
 unfold isWd isPl
 rw [show decide ((w.length : Int) ≤ 16) = decide (w.length ≤ 16) from decide_eq_decide.mpr (by lia)]
theorem none_of {M M' : MH} {p : Addr} (h : Sub M M') (hp : M' p = none) : M p = none := by
 cases q : M p with
 | none => rfl
 | some o => have := h p o q; rw [hp] at this; cases this
theorem cutT_to' (xs : List T) (k : Int) (h0 : 0 ≤ k) : cutT xs none (some k) = xs.take k.toNat := by
 unfold cutT
 have e : k = ((k.toNat : Nat) : Int) := by lia
 rw [e, HT.sIx_nat, HT.sIx_none, List.drop_zero, Nat.sub_zero, Int.toNat_natCast]
 by_cases h : k.toNat ≤ xs.length
 · rw [Nat.min_eq_left h]
 · rw [Nat.min_eq_right (by lia), List.take_of_length_le (Nat.le_refl _), List.take_of_length_le (by lia)]
end L2
namespace L2
open PySem PySem.Spec PyProof.Rows LM
end L2
namespace L2
open PySem PySem.Spec PyProof.Rows LM
end L2
namespace L2
open PySem PySem.Spec PyProof.Rows LM
end L2
namespace L2
open PySem PySem.Spec PyProof.Rows LM
end L2
namespace L2
open PySem PySem.Spec PyProof.Rows LM
end L2
namespace L2
open PySem PySem.Spec PyProof.Rows LM
theorem cutT_from' (xs : List T) (k : Int) (h0 : 0 ≤ k) : cutT xs (some k) none = xs.drop k.toNat := by
 unfold cutT
 have e : k = ((k.toNat : Nat) : Int) := by lia
 rw [e, HT.sIx_nat, HT.sIx_none, Int.toNat_natCast]
 by_cases h : k.toNat ≤ xs.length
 · rw [Nat.min_eq_left h, List.take_of_length_le (by rw [List.length_drop]; lia)]
 · rw [Nat.min_eq_right (by lia), Nat.sub_self, List.take_zero, List.drop_of_length_le (by lia)]
end L2
namespace L2
open PySem PySem.Spec PyProof.Rows LM
end L2
namespace LM
end LM
namespace LM
end LM
namespace LM
end LM
namespace LM
end LM
namespace L2
open PySem PySem.Spec PyProof.Rows LM
noncomputable def gI (w : List Int) (k : Int) : Int := w.getD k.toNat 0
theorem gI_nat {A B : List Int} {x : Int} {a : Int} (h0 : 0 ≤ a) (h : A.length = a.toNat) : gI (A ++ x :: B) a = x := by
 unfold gI
 rw [List.getD_eq_getElem?_getD, ← h, List.getElem?_append_right (Nat.le_refl _), Nat.sub_self]
 rfl
theorem gI_nat1 {A B : List Int} {x y : Int} {a : Int} (h0 : 0 ≤ a) (h : A.length = a.toNat) : gI (A ++ x :: y :: B) (a + 1) = y := by
 have : A ++ x :: y :: B = (A ++ [x]) ++ y :: B := by simp
 rw [this]
 exact gI_nat (by lia) (by simp; lia)
end L2
namespace L2
open PySem PySem.Spec PyProof.Rows LM
theorem gI_at {w : List Int} {a : Int} (h0 : 0 ≤ a) (h1 : a < w.length) : atI (w.map T.int) a = some (.int (gI w a)) := atI_ints w a h0 h1
end L2
namespace L2
open PySem PySem.Spec PyProof.Rows LM
end L2
namespace L2
open PySem PySem.Spec PyProof.Rows LM
end L2
namespace L2
open PySem PySem.Spec PyProof.Rows LM
end L2
namespace L2
open PySem PySem.Spec PyProof.Rows LM
noncomputable def Sn : Nat → List Int → Nat
 | _, [] => 0
 | i, x :: r => i * x.toNat + Sn (i + 1) r
theorem Sn_append (A B : List Int) (i : Nat) : Sn i (A ++ B) = Sn i A + Sn (i + A.length) B := by
 induction A generalizing i with
 | nil => simp [Sn]
 | cons x A ih =>
   rw [List.cons_append]
   show i * x.toNat + Sn (i + 1) (A ++ B) = i * x.toNat + Sn (i + 1) A + _
   rw [ih, List.length_cons, show i + 1 + A.length = i + (A.length + 1) by lia]
   lia
noncomputable def IsP (n : Int) (r : List Int) : Prop := r.Perm (range0 n)
theorem IsP.nodup {n : Int} {r : List Int} (h : IsP n r) : r.Nodup := h.nodup_iff.mpr (range0_nodup n)
theorem IsP.len {n : Int} {r : List Int} (h : IsP n r) : r.length = n.toNat := by rw [h.length_eq, range0_length]
theorem IsP.mem {n x : Int} {r : List Int} (h : IsP n r) : x ∈ r ↔ 0 ≤ x ∧ x < n := by
 rw [h.mem_iff]
 exact ⟨mem_range0, fun z => range0_mem z.1 z.2⟩
noncomputable def mvC (one other : List Int) (l : Nat) : Bool := decide (gI other ((l : Int) - 1) > gI other l) && decide (one.idxOf ((l : Int) - 1) < one.idxOf (l : Int))
noncomputable def mvS (one other : List Int) (m : Nat) : List Nat := (List.range m).filter fun i => mvC one other (i + 1)
noncomputable def mvL (one other : List Int) : Nat := match mvS one other (one.length - 1) with
 | [] => 0
 | i :: _ => i + 1
noncomputable def begL (row : List Int) (l : Nat) : List Int := row.take (l - 1) ++ [gI row l, gI row ((l : Int) - 1)] ++ row.drop (l + 1)
theorem ord_cut {row : List Int} {l : Nat} (h1 : 1 ≤ l) (h2 : l < row.length) : ∃ A x y B, row = A ++ x :: y :: B ∧ A.length = l - 1 := by
 refine ⟨row.take (l - 1), row[l - 1], row[l], row.drop (l + 1), ?_, by rw [List.length_take]; lia⟩
 have e1 := List.take_append_drop (l - 1) row
 rw [List.drop_eq_getElem_cons (show l - 1 < row.length by lia), show l - 1 + 1 = l by lia, List.drop_eq_getElem_cons h2] at e1
 exact e1.symm
theorem begL_cut {A B : List Int} {x y : Int} {l : Nat} (h1 : 1 ≤ l) (h : A.length = l - 1) : begL (A ++ x :: y :: B) l = A ++ y :: x :: B ∧ gI (A ++ x :: y :: B) ((l : Int) - 1) = x ∧ gI (A ++ x :: y :: B) l = y := by
 have g1 : gI (A ++ x :: y :: B) ((l : Int) - 1) = x := gI_nat (by lia) (by lia)
 have g2 : gI (A ++ x :: y :: B) l = y := by
   have := gI_nat1 (A := A) (x := x) (y := y) (B := B) (a := (l : Int) - 1) (by lia) (by lia)
   rw [show (l : Int) - 1 + 1 = l by lia] at this
   exact this
 refine ⟨?_, g1, g2⟩
 unfold begL
 rw [g1, g2, ← h, List.take_left]
 rw [show l + 1 = A.length + 2 by lia, List.drop_append]
 simp
theorem Sn_beg {A B : List Int} {x y : Int} (hx : 0 ≤ x) (hy : 0 ≤ y) (h : x > y) (i : Nat) : Sn i (A ++ y :: x :: B) + y.toNat = Sn i (A ++ x :: y :: B) + x.toNat := by
 rw [Sn_append, Sn_append]
 show Sn i A + ((i + A.length) * y.toNat + ((i + A.length + 1) * x.toNat + Sn (i + A.length + 1 + 1) B)) + y.toNat = Sn i A + ((i + A.length) * x.toNat + ((i + A.length + 1) * y.toNat + Sn (i + A.length + 1 + 1) B)) + x.toNat
 rw [Nat.add_mul (i + A.length) 1 x.toNat, Nat.add_mul (i + A.length) 1 y.toNat]
 lia
theorem rangeT_range0 (n : Int) : rangeT 0 n.toNat = (range0 n).map .int := by
 unfold rangeT range0
 rw [List.map_map]
 exact List.map_congr_left fun i _ => by show T.int (0 + (i : Nat)) = T.int (i : Nat); rw [Int.zero_add]
theorem range0_sorted (n : Int) : (range0 n).Pairwise (· ≤ ·) := by
 unfold range0
 rw [List.pairwise_map]
 exact List.Pairwise.imp (fun h => by lia) List.pairwise_lt_range
theorem sorted_is {n : Int} {ns ms : List Int} (h : ms.Perm ns) (s : ms.Pairwise (· ≤ ·)) : decide (ms = range0 n) = decide (ns.Perm (range0 n)) := by
 rw [Bool.eq_iff_iff, decide_eq_true_eq, decide_eq_true_eq]
 constructor
 · rintro rfl
   exact h.symm
 · intro g
   exact List.Perm.eq_of_pairwise (fun a b _ _ h1 h2 => Int.le_antisymm h1 h2) s (range0_sorted n) (h.trans g)
noncomputable def stB (n : Int) (r : List Int) : Bool := decide (r.Perm (range0 n)) && (decide (r ≠ range0 n) && decide (r ≠ (range0 n).reverse))
noncomputable def dsc (vs : List Int) (i : Nat) : Bool := decide (gI vs (((i + 1 : Nat) : Int) - 1) > gI vs ((i + 1 : Nat) : Int))
noncomputable def upB (us : List Int) (i : Nat) : Bool := decide (us.idxOf (((i + 1 : Nat) : Int) - 1) > us.idxOf ((i + 1 : Nat) : Int))
noncomputable def bsS (us vs : List Int) (m : Nat) : List Bool := ((List.range m).filter (dsc vs)).map (upB us)
theorem bsS_succ (us vs : List Int) (m : Nat) : bsS us vs (m + 1) = bsS us vs m ++ if dsc vs m = true then [upB us m] else [] := by
 unfold bsS
 rw [List.range_succ, List.filter_append, List.map_append, List.filter_cons, List.filter_nil]
 congr 1
 split <;> rfl
theorem mvL_zero (us vs : List Int) : mvL us vs = 0 ↔ mvS us vs (us.length - 1) = [] := by
 unfold mvL
 cases mvS us vs (us.length - 1) with
 | nil => simp
 | cons i r => simp
theorem bsS_all {n : Int} {us vs : List Int} (h : IsP n us) : (bsS us vs (us.length - 1)).all id = decide (mvL us vs = 0) := by
 have hl := h.len
 rw [Bool.eq_iff_iff, decide_eq_true_eq, mvL_zero, List.all_eq_true]
 unfold bsS mvS
 rw [List.filter_eq_nil_iff]
 constructor
 · intro g i hi c
   unfold mvC at c
   rw [Bool.and_eq_true, decide_eq_true_eq] at c
   have := g (upB us i) (List.mem_map_of_mem (List.mem_filter.mpr ⟨hi, decide_eq_true c.1⟩))
   have h1 := of_decide_eq_true this
   have h2 := of_decide_eq_true c.2
   lia
 · intro g b hb
   obtain ⟨i, hi, rfl⟩ := List.mem_map.mp hb
   obtain ⟨hi, hd⟩ := List.mem_filter.mp hi
   have h1 := g i hi
   have hi := List.mem_range.mp hi
   show upB us i = true
   unfold upB
   rw [decide_eq_true_eq]
   have h2 : ¬ (us.idxOf (((i + 1 : Nat) : Int) - 1) < us.idxOf ((i + 1 : Nat) : Int)) := fun z => h1 (by unfold mvC; rw [Bool.and_eq_true]; exact ⟨hd, decide_eq_true z⟩)
   have h3 : us.idxOf (((i + 1 : Nat) : Int) - 1) ≠ us.idxOf ((i + 1 : Nat) : Int) := fun z => by
     have m1 : (((i + 1 : Nat) : Int) - 1) ∈ us := h.mem.mpr (by lia)
     have m2 : ((i + 1 : Nat) : Int) ∈ us := h.mem.mpr (by lia)
     have e1 := List.getElem_idxOf (List.idxOf_lt_length_of_mem m1)
     have e2 := List.getElem_idxOf (List.idxOf_lt_length_of_mem m2)
     have : (((i + 1 : Nat) : Int) - 1) = ((i + 1 : Nat) : Int) := e1.symm.trans ((getElem_congr_idx z).trans e2)
     lia
   lia
theorem ends_at {us : List Int} {a : Int} (h0 : 0 ≤ a) (h1 : a < us.length) : gI ((range0 us.length).map fun s => ((us.idxOf s : Nat) : Int)) a = ((us.idxOf a : Nat) : Int) := by
 unfold gI range0
 rw [List.map_map, List.getD_eq_getElem?_getD, List.getElem?_map, List.getElem?_range (by lia)]
 show ((us.idxOf ((a.toNat : Nat) : Int) : Nat) : Int) = _
 rw [Int.toNat_of_nonneg h0]
noncomputable def tupT (r : List Int) : T := .tup (r.map .int)
noncomputable def stillB (R : List (List Int)) : Bool := (List.range (R.length - 1)).all fun i => decide (mvL (R.getD i []) (R.getD (i + 1) []) = 0)
noncomputable def isFm (n pw : Int) (R : List (List Int)) : Bool :=
 if ¬ (1 ≤ n ∧ n ≤ 6) ∨ (n = 1 ∧ pw ≠ 0) then false else if R.all (stB n) then stillB R else false
theorem get_tupT {R : List (List Int)} {i : Nat} {x : T} (h : (R.map tupT)[i]? = some x) : ∃ r, R[i]? = some r ∧ x = tupT r := by
 rw [List.getElem?_map] at h
 cases e : R[i]? with
 | none => rw [e] at h; cases h
 | some s => rw [e] at h; exact ⟨s, rfl, (Option.some.inj h).symm⟩
theorem tupT_at {R : List (List Int)} {i : Nat} (h : i < R.length) : atI (R.map tupT) (i : Nat) = some (tupT (R.getD i [])) := by
 refine atI_nat ?_
 rw [List.getElem?_map, List.getD_eq_getElem?_getD, List.getElem?_eq_getElem h]
 rfl
theorem getD_mem {R : List (List Int)} {i : Nat} (h : i < R.length) : R.getD i [] ∈ R := by
 rw [List.getD_eq_getElem?_getD, List.getElem?_eq_getElem h]
 exact List.getElem_mem h
theorem stB_isP {n : Int} {r : List Int} (h : stB n r = true) : IsP n r := by
 unfold stB at h
 have := (Bool.and_eq_true_iff.mp h).1
 exact of_decide_eq_true (p := r.Perm (range0 n)) this
theorem stillB_is (R : List (List Int)) : ((List.range (R.length - 1)).map fun i => decide (mvL (R.getD i []) (R.getD (i + 1) []) = 0)).all id = stillB R := by
 unfold stillB
 rw [List.all_map]
 rfl
theorem range_snoc_map {α : Type} (f : Nat → α) (i : Nat) : (List.range (i + 1)).map f = (List.range i).map f ++ [f i] := by
 rw [List.range_succ, List.map_append]
 rfl
end L2
namespace L2
open PySem PySem.Spec PyProof.Rows LM
end L2
namespace L2
open PySem PySem.Spec PyProof.Rows LM
theorem swapN_begL {row : List Int} {l : Nat} (h1 : 1 ≤ l) (h2 : l < row.length) : swapN row (l - 1) = begL row l := by
 obtain ⟨A, x, y, B, rfl, hA⟩ := ord_cut h1 h2
 rw [(begL_cut (x := x) (y := y) (B := B) h1 hA).1]
 unfold swapN
 have e1 : (A ++ x :: y :: B).getD (l - 1) 0 = x := by
   rw [List.getD_eq_getElem?_getD, ← hA, List.getElem?_append_right (Nat.le_refl _), Nat.sub_self]; rfl
 have e2 : (A ++ x :: y :: B).getD (l - 1 + 1) 0 = y := by
   rw [List.getD_eq_getElem?_getD, ← hA, List.getElem?_append_right (by lia), show A.length + 1 - A.length = 1 by lia]; rfl
 rw [e1, e2, ← hA, List.set_append_right _ _ (Nat.le_refl _), Nat.sub_self, List.set_append_right _ _ (by lia), show A.length + 1 - A.length = 1 by lia]
 rfl
noncomputable def dsB (row : List Int) (l : Nat) : Bool := decide (gI row ((l : Int) - 1) > gI row l)
noncomputable def dsL (row : List Int) (m : Nat) : List Nat := ((List.range m).map (· + 1)).filter (dsB row)
theorem dsL_succ (row : List Int) (m : Nat) : dsL row (m + 1) = dsL row m ++ if dsB row (m + 1) = true then [m + 1] else [] := by
 unfold dsL
 rw [List.range_succ, List.map_append, List.filter_append, List.map_cons, List.map_nil, List.filter_cons, List.filter_nil]
noncomputable def fsD (row : List Int) : Nat := match dsL row (row.length - 1) with
 | [] => 0
 | l :: _ => l
theorem dsL_mem {row : List Int} {m l : Nat} : l ∈ dsL row m ↔ (1 ≤ l ∧ l ≤ m) ∧ dsB row l = true := by
 unfold dsL
 rw [List.mem_filter, List.mem_map]
 constructor
 · rintro ⟨⟨a, ha, rfl⟩, h⟩
   have := List.mem_range.mp ha
   exact ⟨by lia, h⟩
 · rintro ⟨h, g⟩
   exact ⟨⟨l - 1, List.mem_range.mpr (by lia), by lia⟩, g⟩
theorem fsD_pos {row : List Int} (h : fsD row ≠ 0) : 1 ≤ fsD row ∧ fsD row < row.length ∧ dsB row (fsD row) = true := by
 unfold fsD at h ⊢
 cases e : dsL row (row.length - 1) with
 | nil => rw [e] at h; exact absurd rfl h
 | cons l r =>
   have : l ∈ dsL row (row.length - 1) := by rw [e]; exact List.mem_cons_self
   obtain ⟨⟨h1, h2⟩, h3⟩ := dsL_mem.mp this
   exact ⟨h1, by show l < _; lia, h3⟩
theorem fsD_zero {row : List Int} : fsD row = 0 ↔ ∀ l : Nat, 1 ≤ l → l < row.length → dsB row l = false := by
 constructor
 · intro h l h1 h2
   cases g : dsB row l with
   | false => rfl
   | true =>
     have : l ∈ dsL row (row.length - 1) := dsL_mem.mpr ⟨⟨h1, by lia⟩, g⟩
     unfold fsD at h
     cases e : dsL row (row.length - 1) with
     | nil => rw [e] at this; cases this
     | cons x r =>
       rw [e] at h
       have hx : x ∈ dsL row (row.length - 1) := by rw [e]; exact List.mem_cons_self
       have := (dsL_mem.mp hx).1.1
       have h : x = 0 := h
       lia
 · intro h
   unfold fsD
   cases e : dsL row (row.length - 1) with
   | nil => rfl
   | cons x r =>
     have hx : x ∈ dsL row (row.length - 1) := by rw [e]; exact List.mem_cons_self
     obtain ⟨⟨h1, h2⟩, h3⟩ := dsL_mem.mp hx
     rw [h x h1 (by lia)] at h3
     cases h3
theorem fsD_first {row : List Int} {l : Nat} (h1 : 1 ≤ l) (h2 : l < row.length) (h : dsB row l = true) (hk : ∀ k : Nat, 1 ≤ k → k < l → dsB row k = false) : fsD row = l := by
 have key : ∀ m, l ≤ m → ∃ r, dsL row m = l :: r := by
   intro m
   induction m with
   | zero => intro z; lia
   | succ m ih =>
     intro z
     rw [dsL_succ]
     by_cases e : l = m + 1
     · subst e
       have : dsL row m = [] := List.eq_nil_iff_forall_not_mem.mpr fun x hx => by
         obtain ⟨⟨a, b⟩, c⟩ := dsL_mem.mp hx
         rw [hk x a (by lia)] at c
         cases c
       rw [this, if_pos h]
       exact ⟨[], rfl⟩
     · obtain ⟨r, hr⟩ := ih (by lia)
       rw [hr]
       exact ⟨_, rfl⟩
 obtain ⟨r, hr⟩ := key (row.length - 1) (by lia)
 unfold fsD
 rw [hr]
noncomputable def ltF : Nat → List Int → List Int
 | 0, _ => []
 | k + 1, row => if fsD row = 0 then [] else (fsD row : Nat) :: ltF k (begL row (fsD row))
noncomputable def ltO (row : List Int) : List Int := ltF 400 row
theorem Sn_le {B : Nat} : ∀ (L : List Int) (i : Nat), (∀ x ∈ L, x.toNat ≤ B) → Sn i L ≤ (i + L.length) * B * L.length
 | [], i, _ => Nat.zero_le _
 | x :: L, i, h => by
   have ih := Sn_le L (i + 1) fun y hy => h y (by simp [hy])
   have hx := h x (by simp)
   show i * x.toNat + Sn (i + 1) L ≤ (i + (L.length + 1)) * B * (L.length + 1)
   rw [show i + (L.length + 1) = i + 1 + L.length by lia, Nat.mul_succ]
   have h1 : i * x.toNat ≤ (i + 1 + L.length) * B := Nat.mul_le_mul (by lia) hx
   lia
theorem Sn_small {n : Int} {row : List Int} (h : IsP n row) (h6 : n ≤ 6) : Sn 0 row ≤ 216 := by
 have hl := h.len
 have h1 := Sn_le (B := 6) row 0 fun x hx => by have := h.mem.mp hx; lia
 have h2 : (0 + row.length) * 6 * row.length ≤ 6 * 6 * 6 := Nat.mul_le_mul (Nat.mul_le_mul (by lia) (Nat.le_refl _)) (by lia)
 lia
theorem beg_isP {n : Int} {row : List Int} {l : Nat} (h : IsP n row) (h1 : 1 ≤ l) (h2 : l < row.length) : IsP n (begL row l) := by
 obtain ⟨A, x, y, B, rfl, hA⟩ := ord_cut h1 h2
 rw [(begL_cut (x := x) (y := y) (B := B) h1 hA).1]
 refine List.Perm.trans (List.perm_iff_count.mpr fun z => ?_) h
 simp only [List.count_append, List.count_cons]
 lia
theorem beg_up {n : Int} {row : List Int} {l : Nat} (h : IsP n row) (h1 : 1 ≤ l) (h2 : l < row.length) (hd : dsB row l = true) : Sn 0 row < Sn 0 (begL row l) := by
 obtain ⟨A, x, y, B, rfl, hA⟩ := ord_cut h1 h2
 obtain ⟨b1, b2, b3⟩ := begL_cut (x := x) (y := y) (B := B) h1 hA
 unfold dsB at hd
 rw [b2, b3, decide_eq_true_eq] at hd
 rw [b1]
 have hx := h.mem.mp (show x ∈ A ++ x :: y :: B by simp)
 have hy := h.mem.mp (show y ∈ A ++ x :: y :: B by simp)
 have := Sn_beg (A := A) (B := B) hx.1 hy.1 hd 0
 lia
theorem ltF_enough {n : Int} (h6 : n ≤ 6) : ∀ (k : Nat) {row : List Int}, IsP n row → 217 ≤ k + Sn 0 row → ltF (k + 1) row = ltF k row := by
 intro k
 induction k with
 | zero =>
   intro row h hk
   have := Sn_small h h6
   lia
 | succ k ih =>
   intro row h hk
   by_cases e : fsD row = 0
   · show (if fsD row = 0 then [] else _) = (if fsD row = 0 then [] else _)
     rw [if_pos e, if_pos e]
   · show (if fsD row = 0 then [] else (fsD row : Int) :: ltF (k + 1) (begL row (fsD row))) = (if fsD row = 0 then [] else (fsD row : Int) :: ltF k (begL row (fsD row)))
     obtain ⟨f1, f2, f3⟩ := fsD_pos e
     rw [if_neg e, if_neg e, ih (beg_isP h f1 f2) (by have := beg_up h f1 f2 f3; lia)]
theorem ltO_eq {n : Int} {row : List Int} (h : IsP n row) (h6 : n ≤ 6) : ltO row = if fsD row = 0 then [] else (fsD row : Int) :: ltO (begL row (fsD row)) := by
 have := ltF_enough h6 400 h (by lia)
 unfold ltO
 rw [← this]
 rfl
theorem ltO_nil {n : Int} {row : List Int} (h : IsP n row) (h6 : n ≤ 6) (e : fsD row = 0) : ltO row = [] := by rw [ltO_eq h h6, if_pos e]
theorem ltO_cons {n : Int} {row : List Int} (h : IsP n row) (h6 : n ≤ 6) {l : Nat} (e : fsD row = l) (hl : 1 ≤ l) : ltO row = (l : Int) :: ltO (begL row l) := by
 rw [ltO_eq h h6, if_neg (by lia), e]
theorem ltF_len : ∀ (k : Nat) (row : List Int), (ltF k row).length ≤ k
 | 0, _ => Nat.le_refl _
 | k + 1, row => by
   show (if fsD row = 0 then [] else (fsD row : Int) :: ltF k (begL row (fsD row))).length ≤ k + 1
   split
   · exact Nat.zero_le _
   · rw [List.length_cons]
     have := ltF_len k (begL row (fsD row))
     lia
theorem ltO_len (row : List Int) : (ltO row).length ≤ 400 := ltF_len 400 row
end L2
namespace L2
open PySem PySem.Spec PyProof.Rows LM
theorem isP_of {n : Int} {L : List Int} (h1 : L.Nodup) (h2 : ∀ x, x ∈ L ↔ 0 ≤ x ∧ x < n) : IsP n L :=
 (List.perm_ext_iff_of_nodup h1 (range0_nodup n)).mpr fun a => (h2 a).trans ⟨fun z => range0_mem z.1 z.2, mem_range0⟩
noncomputable def invO (ws : List Int) : List Int := (range0 ws.length).map fun s => ((ws.idxOf s : Nat) : Int)
theorem idx_inj {ws : List Int} {a b : Int} (h1 : a ∈ ws) (h2 : b ∈ ws) (h : ws.idxOf a = ws.idxOf b) : a = b := by
 have e1 := List.getElem_idxOf (List.idxOf_lt_length_of_mem h1)
 have e2 := List.getElem_idxOf (List.idxOf_lt_length_of_mem h2)
 exact e1.symm.trans ((getElem_congr_idx h).trans e2)
theorem inv_isP {n : Int} {ws : List Int} (h0 : 0 ≤ n) (h : IsP n ws) : IsP n (invO ws) := by
 have hl := h.len
 have el : ((ws.length : Nat) : Int) = n := by lia
 unfold invO
 rw [el]
 refine isP_of ?_ fun x => ?_
 · unfold List.Nodup
   rw [List.pairwise_map]
   refine List.Pairwise.imp_of_mem (fun {a b} ha hb hab z => ?_) (range0_nodup n)
   exact hab (idx_inj (h.mem.mpr (mem_range0 ha)) (h.mem.mpr (mem_range0 hb)) (by lia))
 · rw [List.mem_map]
   constructor
   · rintro ⟨a, ha, rfl⟩
     have := List.idxOf_lt_length_of_mem (h.mem.mpr (mem_range0 ha))
     lia
   · rintro ⟨h1, h2⟩
     have hx : x.toNat < ws.length := by lia
     refine ⟨ws[x.toNat], ?_, ?_⟩
     · have := h.mem.mp (List.getElem_mem hx)
       exact range0_mem this.1 this.2
     · rw [h.nodup.idxOf_getElem _ hx]
       lia
noncomputable def flO (n : Int) (ws : List Int) : List Int := ws.reverse.map fun x => n - 1 - x
theorem fl_isP {n : Int} {ws : List Int} (h : IsP n ws) : IsP n (flO n ws) := by
 unfold flO
 refine isP_of ?_ fun x => ?_
 · unfold List.Nodup
   rw [List.pairwise_map, List.pairwise_reverse]
   exact List.Pairwise.imp (fun {a b} hab z => hab (by lia)) h.nodup
 · rw [List.mem_map]
   constructor
   · rintro ⟨a, ha, rfl⟩
     have := h.mem.mp (List.mem_reverse.mp ha)
     lia
   · rintro ⟨h1, h2⟩
     exact ⟨n - 1 - x, List.mem_reverse.mpr (h.mem.mpr (by lia)), by lia⟩
theorem swap_isP {n : Int} {row : List Int} {k : Nat} (h : IsP n row) (h2 : k + 1 < row.length) : IsP n (swapN row k) := by
 have := swapN_begL (row := row) (l := k + 1) (by lia) h2
 rw [Nat.add_sub_cancel] at this
 rw [this]
 exact beg_isP h (by lia) h2
end L2
namespace L2
open PySem PySem.Spec PyProof.Rows LM
end L2
namespace L2
open PySem PySem.Spec PyProof.Rows LM
end L2
namespace L2
open PySem PySem.Spec PyProof.Rows LM
theorem seq_cut {a b : TS3} {D : Ends3} {ρ : En} {M : MH} (h : ∀ K : En → MH → Prop, K = b D → a { D with nx := K } ρ M) : tSeq3 a b D ρ M := h _ rfl
theorem seq_cut2 {a b c : TS3} {D : Ends3} {ρ : En} {M : MH} (h : ∀ K : En → MH → Prop, K = c D → tSeq3 a b { D with nx := K } ρ M) : tSeq3 a (tSeq3 b c) D ρ M := h _ rfl
theorem seq_cut3 {a b c d : TS3} {D : Ends3} {ρ : En} {M : MH} (h : ∀ K : En → MH → Prop, K = d D → tSeq3 a (tSeq3 b c) { D with nx := K } ρ M) : tSeq3 a (tSeq3 b (tSeq3 c d)) D ρ M := h _ rfl
end L2
namespace L2
open PySem PySem.Spec PyProof.Rows LM
end L2
namespace L2
open PySem PySem.Spec PyProof.Rows LM
end L2
namespace L2
open PySem PySem.Spec PyProof.Rows LM
end L2
namespace L2
open PySem PySem.Spec PyProof.Rows LM
end L2
namespace L2
open PySem PySem.Spec PyProof.Rows LM
end L2
namespace L2
open PySem PySem.Spec PyProof.Rows LM
end L2
namespace L2
open PySem PySem.Spec PyProof.Rows LM
end L2
namespace L2
open PySem PySem.Spec PyProof.Rows LM
end L2
namespace L2
open PySem PySem.Spec PyProof.Rows LM
end L2
namespace L2
open PySem PySem.Spec PyProof.Rows LM
end L2
namespace L2
open PySem PySem.Spec PyProof.Rows LM
end L2
namespace L2
open PySem PySem.Spec PyProof.Rows LM
end L2
namespace L2
open PySem PySem.Spec PyProof.Rows LM
end L2
namespace L2
open PySem PySem.Spec PyProof.Rows LM
end L2
namespace L2
open PySem PySem.Spec PyProof.Rows LM
end L2
namespace L2
open PySem PySem.Spec PyProof.Rows LM
end L2
namespace LM
end LM
namespace L2
open PySem PySem.Spec PyProof.Rows LM
end L2
namespace LM
end LM
namespace L2
open PySem PySem.Spec PyProof.Rows LM
section
variable {n : Int} (h6 : n ≤ 6)
include h6
end
end L2
namespace L2
open PySem PySem.Spec PyProof.Rows LM
end L2
namespace L2
open PySem PySem.Spec PyProof.Rows LM
end L2
namespace L2
open PySem PySem.Spec PyProof.Rows LM
end L2
namespace L2
open PySem PySem.Spec PyProof.Rows LM
theorem rep_map (k : Nat) (w : List Int) : (List.replicate k (w.map T.int)).flatten = ((List.replicate k w).flatten).map T.int := by
 induction k with
 | zero => rfl
 | succ k ih => rw [List.replicate_succ, List.replicate_succ, List.flatten_cons, List.flatten_cons, ih, List.map_append]
theorem rep_len (k : Nat) (w : List Int) : ((List.replicate k w).flatten).length = k * w.length := by
 induction k with
 | zero => simp
 | succ k ih => rw [List.replicate_succ, List.flatten_cons, List.length_append, ih, Nat.succ_mul]; lia
end L2
namespace L2
open PySem PySem.Spec PyProof.Rows LM
section
variable {n : Int}
end
end L2
namespace L2
open PySem PySem.Spec PyProof.Rows LM
section
variable {n : Int}
end
end L2
namespace L2
open PySem PySem.Spec PyProof.Rows LM
end L2
namespace L2
open PySem PySem.Spec PyProof.Rows LM
section
variable {n : Int}
end
end L2
namespace L2
open PySem PySem.Spec PyProof.Rows
noncomputable def rangeD (hi : Int) (n : Nat) : List T := (List.range n).map fun i => T.int (hi - (i : Nat))
section
variable {X : Cx} {a b c : Expr} {t : TA3} {pos : Pos}
theorem vals3 : ∀ {x y z : V} {us : List Value}, Vals [x, y, z] us → ∃ u v w, us = [u, v, w] ∧ RelV x u ∧ RelV y v ∧ RelV z w
 | _, _, _, _, .cons r (.cons q (.cons k .nil)) => ⟨_, _, _, rfl, r, q, k⟩
theorem reps3 {K : PySem.W.Frag} {H : Hp} {vs : List V} {x y z : T} (r : Reps K H vs [x, y, z]) : ∃ u v w, vs = [u, v, w] ∧ Rep K H u x ∧ Rep K H v y ∧ Rep K H w z := by
 unfold Reps at r
 obtain ⟨v, r', rfl, h, r⟩ := r
 obtain ⟨u, w, rfl, h', h''⟩ := reps2 r
 exact ⟨v, u, w, rfl, h, h', h''⟩
noncomputable def iRng3_3 (t : TA3) : TI3 := fun ρ M R => t ρ M fun xs M1 => match xs with
 | [.int i, .int j, .int s] => (s = -1 ∧ -(2 ^ 62) ≤ i ∧ i < 2 ^ 62 ∧ -(2 ^ 62) ≤ j ∧ j < 2 ^ 62) ∧ R ⟨rangeD i (i - j).toNat, fun _ => True⟩ M1
 | _ => False
noncomputable def tTRng3 (t : TA3) : TE3 := fun ρ M Q => t ρ M fun xs M1 => match xs with
 | [.int i, .int j, .int s] => (s = -1 ∧ -(2 ^ 62) ≤ i ∧ i < 2 ^ 62 ∧ -(2 ^ 62) ≤ j ∧ j < 2 ^ 62 ∧ i - j < 2 ^ 24) ∧ Q (.tup (rangeD i (i - j).toNat)) M1
 | _ => False
noncomputable def rangeDV (hi : Int) (n : Nat) : List V := (List.range n).map fun i => V.int (hi - (i : Nat))
theorem rangeDV_reps {K : PySem.W.Frag} {H : Hp} (hi : Int) (n : Nat) : Reps K H (rangeDV hi n) (rangeD hi n) := by
 unfold rangeDV rangeD
 induction List.range n with
 | nil => unfold Reps; rfl
 | cons i l ih =>
   unfold Reps
   exact ⟨_, _, rfl, rep_int, ih⟩
theorem h_tupRange3 {t : TA3} {p p' pos' : Pos} (hm : X.mg "tuple" = none) (hm' : X.mg "range" = none) (ha : HA X [a, b, c] t) (hc : X.calm = true := by rfl) (hg : Gl X "tuple" := by rfl) (hg' : Gl X "range" := by rfl) (hs : starEach [a, b, c] X.env = [(false, eval a X.env), (false, eval b X.env), (false, eval c X.env)] := by rfl) (hs2 : starEach [b, c] X.env = [(false, eval b X.env), (false, eval c X.env)] := by rfl)
   (he : starEach [.Call (.Name "range" p') [a, b, c] [] pos'] X.env = (false, eval (.Call (.Name "range" p') [a, b, c] [] pos') X.env) :: starEach [] X.env := by rfl) :
   HE X (.Call (.Name "tuple" p) [.Call (.Name "range" p') [a, b, c] [] pos'] [] pos) (tTRng3 t) := by
 intro ρ M Q h pins s σ H Q2 I bb
 obtain ⟨hr, hh, en⟩ := bb
 refine wpAny_Call_Name_kw (ld_blt I hg hm boot_tuple ?_ (by decide) (by decide))
 refine PyProof.Rows.callWith_type1 ?_ he rfl
 rw [he]
 refine Calls.spliced_cons ?_
 refine Call_ (ld_blt I hg' hm' boot_range (PyProof.Rows.callWith_type1 (thn (ha ρ M _ h pos' pins s σ H (fun vs H1 => ∃ i j M1, vs = [V.int i, V.int j, V.int (-1)] ∧ HR X.K H1 M1 ∧ Kp X.K H H1 ∧ (-(2 ^ 62) ≤ i ∧ i < 2 ^ 62 ∧ -(2 ^ 62) ≤ j ∧ j < 2 ^ 62 ∧ i - j < 2 ^ 24) ∧ Q (.tup (rangeD i (i - j).toNat)) M1) I
   ⟨hr, hh, fun ts vs M1 H1 k1 h1 r1 q1 => by
     dsimp only at q1
     split at q1
     · rename_i i j s
       obtain ⟨v, w', z', rfl, rv, rw', rz⟩ := reps3 r1
       obtain rfl := inv_int rv
       obtain rfl := inv_int rw'
       obtain rfl := inv_int rz
       obtain ⟨⟨rfl, q2⟩, q3⟩ := q1
       exact ⟨i, j, M1, rfl, h1, k1, q2, q3⟩
     · exact q1.elim⟩) fun us s1 ⟨vs, H1, I1, rv, i, j, M1, e1, h1, k1, hj, q1⟩ => ?_) (by rw [hs, hs2]) (by rw [hs2]; rfl)))
 subst e1
 obtain ⟨u, u2, u3, rfl, ⟨t0, rfl⟩, ⟨t', rfl⟩, t'', rfl⟩ := vals3 rv
 refine call_range_3 (by decide) (Calls.spliced_nil ?_)
 have I2 : Inv X pins σ H1 { s1 with heap := s1.heap.push { cls := .type "range", data := .fields #[.int i t0, .int j t', .int (-1) t''] }, toks := s1.toks } := I1.kept fun b o e => Heap.get?_push_of_some _ e
 have hn : Builtin.Range.rangeSize i j (-1) = (((i - j).toNat : Nat) : Int) := PySem.W.rangeSize_downNat i j
 refine call_tuple_rangeL (I1.ok.hd hc) (IsRange.new ..) (PySem.W.small_down (by lia) (by lia) (by lia) (by lia)) hn (by lia) fun h' tk acc' kp ito => ?_
 have hz : (i - j).toNat ≤ sizeLine := by rw [sizeLine_eq]; lia
 have vr : Vals (rangeDV i (i - j).toNat) acc'.toList := by
   refine vals_of_get (by unfold rangeDV; simp [ito.1]) fun k x ex => ?_
   have hi : k < (i - j).toNat := by have := (List.getElem?_eq_some_iff.mp ex).1; simpa [rangeDV] using this
   have hi' : k < acc'.size := by rw [ito.1]; exact hi
   have ea : acc'[k]? = some acc'[k] := Array.getElem?_eq_getElem hi'
   obtain ⟨tt, et⟩ := ito.2 k _ ea
   refine ⟨acc'[k], by rw [Array.getElem?_toList]; exact ea, ?_⟩
   unfold rangeDV at ex
   rw [List.getElem?_map, List.getElem?_range hi] at ex
   have := Option.some.inj ex
   subst this
   exact ⟨tt, by rw [et]; congr 1; lia⟩
 have I2' : Inv X pins σ H1 { s1 with heap := h', toks := tk } := I2.kept (h' := h') (t' := tk) kp
 have eacc : acc'.toList.toArray = acc' := by simp
 have I3 : Inv X pins σ (upd H1 h'.objs.size (.tup (rangeDV i (i - j).toNat))) { s1 with heap := h'.push { cls := .type "tuple", data := .seq acc' }, toks := tk } :=
   I2'.laid (t' := tk) (fun b o e => Heap.get?_push_of_some _ e) (Nat.le_refl _) (show ObjOk X.prog X.w _ _ _ (.tup (rangeDV i (i - j).toNat)) from
     ⟨by unfold rangeDV; simpa using hz, acc'.toList, vr, by rw [eacc]; exact IsTup0.new _ _⟩)
 have hf := I2'.hok.fresh (Nat.le_refl _)
 have nw := Kp.new (K := X.K) (H := H1) (o := .tup (rangeDV i (i - j).toNat)) hf
 exact ⟨.ref h'.objs.size, _, I3, rfl, en _ _ _ _ (k1.trans nw) (h1.keep hf) (rep_tup (SqT.of upd_same) (rangeDV_reps i (i - j).toNat)) q1⟩
end
end L2
namespace L2
open PySem PySem.Spec PyProof.Rows
noncomputable def Itlr (K : PySem.W.Frag) (a : Addr) (n : Nat) : It :=
 ⟨fun i H => i < n ∧ ∃ xs, SqL K H a xs ∧ xs.length = n, fun i H x H' => H' = H ∧ ∀ xs, SqL K H a xs → xs.reverse[i]? = some x, fun i H => i = n⟩
theorem turn_revL {P : Program} {w : World} {K : PySem.W.Frag} {tg : Expr} (a it : Addr) (n : Nat) : Turn P w K tg (Itlr K a n) [it] it (fun i h => Heap.IsRevIter h it a ((n : Int) - 1 - (i : Int))) where
 mem := by simp
 obj := fun i h st b hb => by
   have e : b = it := by simpa using hb
   subst e
   obtain ⟨o, e, c, d⟩ := st
   exact ⟨o, e, fun v z => by rw [d] at z; cases z⟩
 keep := fun i h h' st k => st.at fun o e => k it (by simp) o e
 item := by
   intro X hP hw hK hc i pins s σ H E I hf st hg
   subst hP hw hK
   obtain ⟨hi, xs, hq, hxn⟩ := hg
   subst hxn
   obtain ⟨its, rv, p, hz⟩ := I.list hq
   have hl := rv.length
   obtain ⟨x, hx'⟩ : ∃ x, xs[xs.length - 1 - i]? = some x := ⟨_, List.getElem?_eq_getElem (by lia)⟩
   obtain ⟨u, hu, ru⟩ := rv.get hx'
   obtain ⟨f0, f1, f2, f3, f4, f5⟩ := hf it (by simp)
   have e1 : (xs.length : Int) - 1 - (i : Int) = ((xs.length - 1 - i : Nat) : Int) := by lia
   rw [e1] at st
   refine wpAny_pyNext_rev_item st p.isList (x := u) (by simpa using hu) fun h' st' sb => ?_
   have I1 : Inv X pins σ H { s with heap := h' } := I.turned (t' := s.toks) (fun b o hb e => (sb.2 b hb).trans e) f0 f1 f3 f4 f5
   have e2 : ((xs.length - 1 - i : Nat) : Int) - 1 = (xs.length : Int) - 1 - ((i + 1 : Nat) : Int) := by lia
   rw [e2] at st'
   obtain ⟨o, e, c, d⟩ := id st'
   exact ⟨u, rfl, go_of (s := { s with heap := h' }) e c d (by decide) ⟨x, H, I1, ru, ⟨rfl, fun ys hy => by rw [I.list_inj hy hq, List.getElem?_reverse hi]; exact hx'⟩, st', fun b hb => (hf b hb).1⟩⟩
 done := by
   intro X hP hw hK hc i pins s σ H E I hf st hg
   subst hP hw hK
   have hg' : i = n := hg
   subst hg'
   obtain ⟨f0, f1, f2, f3, f4, f5⟩ := hf it (by simp)
   have e1 : (i : Int) - 1 - (i : Int) = -1 := by lia
   rw [e1] at st
   exact wpAny_pyNext_rev_end (I.ok.hd hc) st fun h' eb => ⟨rfl, I.turned (t' := s.toks) (fun b o hb e => eb b o hb e) f0 f1 f3 f4 f5⟩
 self := fun _ _ _ _ _ st h => wpAny_pyIter_revIter st h
section
variable {X : Cx}
theorem itok_revL {K : PySem.W.Frag} {H : Hp} {a : Addr} {ts : List T} : ItOk K H (Itlr K a ts.length) ⟨ts.reverse, fun M' => M' a = some (.lst ts)⟩ := by
 refine ⟨fun H' M' k hh st => by show ts.reverse.length = _; rw [List.length_reverse], fun i x H' M' e k hh st => ?_⟩
 have e' : ts.reverse[i]? = some x := e
 have hi : i < ts.length := by have := (List.getElem?_eq_some_iff.mp e').1; simpa using this
 rw [List.getElem?_reverse hi] at e'
 obtain ⟨xs, g1, g2⟩ := hh _ _ st
 have hl := g2.length
 obtain ⟨v, e1, r1⟩ := g2.get e'
 refine ⟨⟨hi, xs, SqL.of g1, hl⟩, fun v' H'' y => ?_⟩
 obtain ⟨rfl, y⟩ := y
 have y2 := y xs (SqL.of g1)
 rw [List.getElem?_reverse (by lia), hl, e1] at y2
 cases y2
 exact ⟨Kp.refl, hh, r1⟩
noncomputable def iRevA (tl : TE3) : TI3 := fun ρ M R => tl ρ M fun x M1 => match x with
 | .tup ts => R ⟨ts.reverse, fun _ => True⟩ M1
 | .adr p => (match M1 p with | some (.lst ts) => R ⟨ts.reverse, fun M' => M' p = some (.lst ts)⟩ M1 | _ => False)
 | _ => False
theorem i_reversedA {tg l : Expr} {tl : TE3} {p : Pos} (hm : X.mg "reversed" = none) (hl : HE X l tl) (hg : Gl X "reversed" := by rfl) (hs : starEach [l] X.env = [(false, eval l X.env)] := by rfl) : HI X tg (.Call (.Name "reversed" p) [l] [] pos) (iRevA tl) := by
 intro ρ M R h pins s σ H R2 I b
 obtain ⟨hr, hh, en⟩ := b
 have pa := pa_cons (X := X) (hl.d (ρ := ρ)) pa_nil hs
 refine Call_ (ld_blt I hg hm PyProof.Rows.boot_reversed (PyProof.Rows.callWith_type1 (thn (pa pos pins s σ H (fun vs H1 => ∃ v t M1, vs = [v] ∧ Kp X.K H H1 ∧ HR X.K H1 M1 ∧ Rep X.K H1 v t ∧ (match t with
   | .tup ts => R ⟨ts.reverse, fun _ => True⟩ M1
   | .adr p => (match M1 p with | some (.lst ts) => R ⟨ts.reverse, fun M' => M' p = some (.lst ts)⟩ M1 | _ => False)
   | _ => False)) I ⟨M, _, h, hr, hh, fun t v M1 H1 k1 h1 r1 q1 => ⟨v, t, M1, rfl, k1, h1, r1, q1⟩⟩) fun us s1 ⟨vs, H1, I1, r1, v, t, M1, e, k1, h1, rt, q1⟩ => ?_) hs rfl))
 subst e
 cases r1 with
 | cons r rr =>
   cases rr
   split at q1
   · rename_i ts
     obtain ⟨a, xs, rfl, g1, g2⟩ := inv_tup rt
     cases r
     obtain ⟨its, rv, p, hz⟩ := I1.tuple g1
     have hlen := rv.length
     refine call_reversedT p (by simp; lia) fun h' tk kk e => ?_
     refine iter_rev (s := { s1 with heap := h', toks := tk }) e ?_
     refine ⟨s1.heap.objs.size, [s1.heap.objs.size], _, _, H1, rfl, I1.kept (t' := tk) kk, turn_rev a _ xs, ?_, fun b hb => ?_, en _ _ M1 H1 k1 h1 (itok_rev g1 g2) q1⟩
     · have e3 : ((its.toArray.size : Nat) : Int) - 1 = (xs.length : Int) - 1 - ((0 : Nat) : Int) := by
         have : its.toArray.size = its.length := by simp
         lia
       rw [e3] at e
       exact e
     · have e : b = s1.heap.objs.size := by simpa using hb
       subst e
       exact I1.fpOk (Nat.le_refl _) (I1.hok.fresh (Nat.le_refl _))
   · rename_i a
     obtain rfl := inv_adr rt
     cases r
     split at q1
     · rename_i ts e0
       obtain ⟨xs, g1, g2⟩ := h1 _ _ e0
       obtain ⟨its, rv, p, hz⟩ := I1.list (SqL.of g1)
       have hlen := rv.length
       have hl2 := g2.length
       refine call_reversed_list p.isList ?_
       have st0 : Heap.IsRevIter (s1.heap.push (revObj a ((its.toArray.size : Int) - 1))) s1.heap.objs.size a ((its.toArray.size : Int) - 1) := ⟨_, Heap.get?_push_size _ rfl, rfl, rfl⟩
       refine wpAny_pyIter_revIter (s := { s1 with heap := s1.heap.push (revObj a ((its.toArray.size : Int) - 1)) }) st0 ?_
       refine ⟨s1.heap.objs.size, [s1.heap.objs.size], _, _, H1, rfl, I1.kept (t' := s1.toks) fun b o e => Heap.get?_push_of_some _ e, turn_revL a _ ts.length, ?_, fun b hb => ?_, en _ _ M1 H1 k1 h1 itok_revL q1⟩
       · have e3 : ((its.toArray.size : Nat) : Int) - 1 = (ts.length : Int) - 1 - ((0 : Nat) : Int) := by
           have : its.toArray.size = its.length := by simp
           lia
         rw [e3] at st0 ⊢
         exact st0
       · have e : b = s1.heap.objs.size := by simpa using hb
         subst e
         exact I1.fpOk (Nat.le_refl _) (I1.hok.fresh (Nat.le_refl _))
     · exact q1.elim
   · exact q1.elim
end
end L2
namespace L2
open PySem PySem.Spec PyProof.Rows LM
end L2
namespace L2
open PySem PySem.Spec PyProof.Rows
theorem for_cut {i : TI3} {g : TG3} {b : TS3} {D : Ends3} {ρ : En} {M : MH} (h : ∀ B : TS3, B = b → tFor3 i g B D ρ M) : tFor3 i g b D ρ M := h _ rfl
section
variable {X : Cx}
end
end L2
namespace L2
open PySem PySem.Spec PyProof.Rows
theorem ObjOk.has {P : Program} {w : World} {H : Hp} {h : Heap} {a : Addr} {o : HO} (x : ObjOk P w H h a o) : ∃ ob, h.get? a = some ob := by
 cases o with
 | lst xs => obtain ⟨_, _, _, _, e⟩ := x; exact ⟨_, e⟩
 | tup xs => obtain ⟨_, _, _, o, e, _⟩ := x; exact ⟨_, e⟩
 | dK kvs => obtain ⟨_, _, _, _, o, _, _, e, _⟩ := x; exact ⟨_, e⟩
 | dT kvs => obtain ⟨_, _, _, _, o, _, _, e, _⟩ := x; exact ⟨_, e⟩
 | set S n => obtain ⟨o, _, _, _, e, _⟩ := x; exact ⟨_, e⟩
 | ins C dx fs => obtain ⟨_, _, _, e, _⟩ := x; exact ⟨_, e⟩
 | own y => obtain ⟨_, e⟩ := x; exact ⟨_, e⟩
 | xd fs => obtain ⟨_, ⟨_, _, _, e, _⟩, _⟩ := x; exact ⟨_, e⟩
 | rng lo hi => obtain ⟨_, _, _, e⟩ := x; exact ⟨_, e⟩
 | frz ob u => obtain ⟨e, _⟩ := x; exact ⟨_, e⟩
 | tbl ps => exact ⟨_, (show h.get? a = some _ from x)⟩
 | met f y => exact ⟨_, (show h.get? a = some _ from x)⟩
 | ext φ => obtain ⟨_, e, _⟩ := x; exact e
structure Fly (H : Hp) (h0 h : Heap) (a : Addr) (C : Value) : Prop where
 un : H a = none
 new : h0.get? a = none
 obj : ∃ oe vs a0, h.get? a = some oe ∧ oe.cls = C ∧ oe.data = .fields vs ∧ vs[0]? = some a0 ∧
   ∃ T oT ts, vs[1]? = some (.ref T) ∧ T ≠ a ∧ H T = none ∧ h0.get? T = none ∧ h.get? T = some oT ∧ oT.data = .fields ts ∧ ts[3]? = some .none
noncomputable def CXE (P : Program) (w : World) : CXT := fun outer H s E e s' => ∃ a C H', e = .ref a ∧ s'.os = s.os ∧ AllBare s'.gens ∧ Un (frs outer) [] H H' s.heap s'.heap ∧ HOk P w H' s'.heap ∧ Fly H' s.heap s'.heap a C ∧ E C none H'
theorem funFrames_of {h base B : Heap} : ∀ {l : List Env}, h.FunFrames base l → (∀ b ∈ frs l, B.get? b = none) → h.FunFrames B l
 | [], _, _ => trivial
 | env :: rest, ⟨hk, ⟨L, o, hf, hn, ho, hd⟩, hr⟩, hb => by
   have e : frs (env :: rest) = L :: frs rest := by unfold frs; rw [List.filterMap_cons, hf]
   exact ⟨hk, ⟨L, o, hf, hb L (by rw [e]; exact List.mem_cons_self), ho, hd⟩, funFrames_of hr fun b hm => hb b (by rw [e]; exact List.mem_cons_of_mem _ hm)⟩
section
variable {X : Cx} {pins : List (Addr × Obj)} {σ : St} {H : Hp} {s : Shared}
structure Leaves (X : Cx) (E : XK) : Prop where
 ex : X.ex = []
 stk : X.stack = X.env :: X.outer
 fr : X.env.frame = some X.env.locals
 xe : ∀ e s', wpAny (model X.prog X.w) X.A (leaving X.env e) (fun _ s'' => CXE X.prog X.w X.outer X.H₀ X.s₀ E e s'') (fun e' s'' => CXE X.prog X.w X.outer X.H₀ X.s₀ E e' s'') s' → X.xe e s'
theorem frs_stack {E : XK} (L : Leaves X E) : frs X.stack = X.env.locals :: X.fs := by
 rw [L.stk]
 unfold frs
 rw [List.filterMap_cons, L.fr]
 rfl
theorem Inv.old (I : Inv X pins σ H s) (hx : X.ex = []) {b : Addr} (h : X.s₀.heap.get? b ≠ none) : ∃ o, s.heap.get? b = some o := by
 cases q : X.s₀.heap.get? b with
 | none => exact absurd q h
 | some o => exact I.base.there b o q (by rw [hx]; simp)
theorem leave_end {E : XK} {B h2 : Heap} {a : Addr} {C a0 : Value} (L : Leaves X E) (I : Inv X pins σ H s) (ha : H a = none) (ha0 : X.s₀.heap.get? a = none)
   (hB : ∀ b o, s.heap.get? b = some o → b ∉ frs X.stack → b ≠ a → (H b ≠ none ∨ X.s₀.heap.get? b ≠ none) → B.get? b = some o)
   (k1 : B.StaysIn h2) (k3 : h2.TracedW B a C a0) (k4 : s.heap.UpToSlots h2) (hE : E C none H) : CXE X.prog X.w X.outer X.H₀ X.s₀ E (.ref a) { s with heap := h2 } := by
 have fs := frs_stack L
 have nL : ∀ b, X.s₀.heap.get? b ≠ none → b ≠ X.env.locals := fun b hb z => by
   cases q : X.s₀.heap.get? b with
   | none => exact hb q
   | some o => exact absurd (Heap.lt_size q) (Nat.not_lt.mpr (by rw [z]; exact I.ok.above))
 have stay : ∀ b o, s.heap.get? b = some o → b ∉ frs X.stack → (H b ≠ none ∨ X.s₀.heap.get? b ≠ none) → h2.get? b = some o := fun b o q hf hc => by
   refine k1 b o (hB b o q hf ?_ hc)
   rintro rfl
   rcases hc with z | z
   · exact z ha
   · exact z ha0
 have noT : ∀ b, (H b ≠ none ∨ X.s₀.heap.get? b ≠ none) → ∃ o, s.heap.get? b = some o := fun b hc => by
   rcases hc with z | z
   · cases q : H b with
     | none => exact absurd q z
     | some u => exact (I.hok b u q).has
   · exact I.old L.ex z
 have dfr : ∀ b ∈ frs X.stack, ∃ o, s.heap.get? b = some o ∧ ∀ vs, o.data ≠ .fields vs := fun b hb => (I.stack.mem hb).2
 obtain ⟨oe, vs, T, oT, ts, t1, ⟨t2, t3⟩, t4, t5, t6, t7, t8, t9, t10⟩ := k3
 have hT : T ∉ frs X.stack := fun hm => by
   obtain ⟨o, e1, e2⟩ := dfr T hm
   obtain ⟨sl, e3⟩ := k4 T o e1 e2
   rw [t8] at e3
   cases e3
   exact e2 ts t9
 have key : ¬ (H T ≠ none ∨ X.s₀.heap.get? T ≠ none) := fun hc => by
   obtain ⟨o, e1⟩ := noT T hc
   have := hB T o e1 hT t7 hc
   rw [t6] at this; cases this
 have hT1 : H T = none := Classical.byContradiction fun z => key (.inl z)
 have hT2 : X.s₀.heap.get? T = none := Classical.byContradiction fun z => key (.inr z)
 refine ⟨a, C, H, rfl, I.os, I.bare, ⟨fun b o q n hf _ => ?_, fun b o q n hf _ => ?_, fun b o q n _ => I.base.free b o q n (by rw [L.ex]; simp), fun b o q _ => ?_, I.base.tups, I.base.frzs, I.base.tbls⟩, fun b u q => ?_, ⟨ha, ha0, oe, vs, a0, t1, t2, t4, t3, T, oT, ts, t5, t7, hT1, hT2, t8, t9, t10⟩, hE⟩
 · have e1 := I.base.keep b o q n hf (by rw [L.ex]; simp)
   refine stay b o e1 ?_ (.inr (by rw [q]; simp))
   rw [fs]
   intro hm
   rcases List.mem_cons.mp hm with z | z
   · exact nL b (by rw [q]; simp) z
   · exact hf z
 · obtain ⟨sl, e1⟩ := I.base.slot b o q n hf (by rw [L.ex]; simp)
   have hm : b ∈ frs X.stack := by rw [fs]; exact List.mem_cons_of_mem _ hf
   obtain ⟨o2, e2, e3⟩ := dfr b hm
   rw [e1] at e2
   cases e2
   obtain ⟨sl', e4⟩ := k4 b _ e1 e3
   exact ⟨sl', e4⟩
 · obtain ⟨o', e1⟩ := I.base.there b o q (by rw [L.ex]; simp)
   by_cases hm : b ∈ frs X.stack
   · obtain ⟨o2, e2, e3⟩ := dfr b hm
     obtain ⟨sl, e4⟩ := k4 b o2 e2 e3
     exact ⟨_, e4⟩
   · exact ⟨_, stay b o' e1 hm (.inr (by rw [q]; simp))⟩
 · refine (I.hok b u q).stay (fun c v hc r => ?_) (fun _ r => r) fun _ _ r => r
   have hne : H c ≠ none := by
     rcases hc with rfl | hc
     · rw [q]; simp
     · rw [hc]; simp
   refine stay c v r (fun hm => hne ?_) (.inl hne)
   exact I.stkFree c hm
theorem leave_new1 {E : XK} {h' : Heap} {a : Addr} {C : Value} {args : List Value} (L : Leaves X E) (I : Inv X pins σ H s) (hx : Heap.MadeExcOf s.heap h' a C args) (hE : E C none H) : X.xe (.ref a) { s with heap := h' } := by
 refine L.xe _ _ ?_
 have hfr := I.ok.frames
 rw [L.stk] at hfr
 have hl : s.heap.FunFrames (PySem.W.hideAll s.heap (frs X.stack)) (X.env :: X.outer) := by
   rw [← L.stk]
   exact funFrames_of I.stack fun b hb => PySem.W.hideAll_none _ hb
 have st : (PySem.W.hideAll s.heap (frs X.stack)).StaysIn s.heap := fun b o q => PySem.W.of_hideAll _ q
 refine wpAny_leaves_madeW (s := { s with heap := h' }) hfr L.fr st hl hx fun h2 t hfl ht htn hsm => ?_
 obtain ⟨f1, f2, f3, f4⟩ := hfl
 have I1 : Inv X pins σ H { s with heap := h', toks := s.toks } := I.kept (t' := s.toks) hx.keeps
 have ha : H a = none := by
   cases q : H a with
   | none => rfl
   | some u => obtain ⟨ob, e⟩ := (I.hok a u q).has; rw [hx.new] at e; cases e
 have ha0 : X.s₀.heap.get? a = none := Classical.byContradiction fun z => by
   obtain ⟨o, e⟩ := I.old L.ex z
   rw [hx.new] at e; cases e
 refine leave_end (B := PySem.W.hideAll s.heap (frs X.stack)) (s := { s with heap := h', toks := s.toks }) L I1 ha ha0 (fun b o q hf hb hc => ?_) f1 f4 hsm hE
 have : ∃ o', s.heap.get? b = some o' := by
   rcases hc with z | z
   · cases r : H b with
     | none => exact absurd r z
     | some u => exact (I.hok b u r).has
   · exact I.old L.ex z
 obtain ⟨o', e⟩ := this
 have e2 := hx.keeps b o' e
 have q' : h'.get? b = some o := q
 rw [e2] at q'
 cases q'
 exact PySem.W.hideAll_get _ e hf
theorem leave_on1 {E : XK} {a : Addr} {C : Value} (L : Leaves X E) (I : Inv X pins σ H s) (F : Fly H X.s₀.heap s.heap a C) (hE : E C none H) : X.xe (.ref a) s := by
 refine L.xe _ _ ?_
 obtain ⟨ha, ha0, oe, vs, a0, t1, t2, t3, t4, T, oT, ts, t5, t6, t7, t8, t9, t10, t11⟩ := F
 have hfr := I.ok.frames
 rw [L.stk] at hfr
 have nfr : ∀ b vs' o, s.heap.get? b = some o → o.data = .fields vs' → b ∉ frs X.stack := fun b vs' o e d hm => by
   obtain ⟨o', e', d'⟩ := (I.stack.mem hm).2
   rw [e] at e'; cases e'
   exact d' _ d
 have hl : s.heap.FunFrames (PySem.W.hideAll s.heap (a :: T :: frs X.stack)) (X.env :: X.outer) := by
   rw [← L.stk]
   exact funFrames_of I.stack fun b hb => PySem.W.hideAll_none _ (List.mem_cons_of_mem _ (List.mem_cons_of_mem _ hb))
 have hfl : Heap.FlyingW (PySem.W.hideAll s.heap (a :: T :: frs X.stack)) (X.env :: X.outer) a C a0 s.heap :=
   ⟨fun b o q => PySem.W.of_hideAll _ q, PySem.W.hideAll_none _ List.mem_cons_self, hl, oe, vs, T, oT, ts, t1, ⟨t2, t4⟩, t3, t5, PySem.W.hideAll_none _ (List.mem_cons_of_mem _ List.mem_cons_self), t6, t9, t10, t11⟩
 refine wpAny_leaves_onW hfr L.fr hfl fun h2 hfl2 hsm => ?_
 obtain ⟨f1, f2, f3, f4⟩ := hfl2
 refine leave_end (B := PySem.W.hideAll s.heap (a :: T :: frs X.stack)) L I ha ha0 (fun b o q hf hb hc => PySem.W.hideAll_get _ q fun hm => ?_) f1 f4 hsm hE
 rcases List.mem_cons.mp hm with z | z
 · exact hb z
 · rcases List.mem_cons.mp z with z | z
   · subst z
     rcases hc with c | c
     · exact c t7
     · exact c t8
   · exact hf z
end
end L2
namespace L2
open PySem PySem.Spec PyProof.Rows
noncomputable abbrev EK3 := Str → En → MH → Prop
theorem Fly.older {H : Hp} {g h0 h : Heap} {a : Addr} {C : Value} (F : Fly H h0 h a C) (k : ∀ b, g.get? b ≠ none → h0.get? b ≠ none) : Fly H g h a C := by
 obtain ⟨f1, f2, oe, vs, a0, t1, t2, t3, t4, T, oT, ts, t5, t6, t7, t8, t9, t10, t11⟩ := F
 exact ⟨f1, Classical.byContradiction fun z => k a z f2, oe, vs, a0, t1, t2, t3, t4, T, oT, ts, t5, t6, t7, Classical.byContradiction fun z => k T z t8, t9, t10, t11⟩
structure Older (X : Cx) (pins : List (Addr × Obj)) (h0 : Heap) : Prop where
 start : ∀ b, X.s₀.heap.get? b ≠ none → h0.get? b ≠ none
 pins : ∀ p ∈ X.pn ++ pins, h0.get? p.1 ≠ none
 loc : h0.get? X.env.locals ≠ none
 cells : ∀ x c, X.env.cells.lookup x = some c → h0.get? c ≠ none
theorem Inv.older {X : Cx} {pins : List (Addr × Obj)} {σ : St} {H : Hp} {s : Shared} (I : Inv X pins σ H s) (hex : X.ex = []) : Older X pins s.heap := by
 refine ⟨fun b hb z => ?_, fun p hp z => ?_, fun z => ?_, fun x c e z => ?_⟩
 · obtain ⟨o, e⟩ := I.old hex hb
   rw [z] at e; cases e
 · have e := (I.pin p hp).1
   rw [z] at e; cases e
 · obtain ⟨m, ⟨o, _, _, e, _⟩, _⟩ := I.loc
   rw [z] at e; cases e
 · obtain ⟨v, o, e1, _⟩ := I.cell x c e
   rw [z] at e1; cases e1
noncomputable def Acc (X : Cx) (Ha : Hp) (E : EK3) : Prop := ∀ (pins : List (Addr × Obj)) (σ : St) (H : Hp) (s : Shared) (h0 : Heap) (a C : Addr) (nm : Str) (ρ : En) (M : MH),
 Inv X pins σ H s → Fly H h0 s.heap a (.ref C) → Older X pins h0 → X.mg nm = some (.ref C) → Kp X.K Ha H → RhoR X.K σ H ρ → HR X.K H M → E nm ρ M → X.xe (.ref a) s
noncomputable def AccN (X : Cx) (Ha : Hp) (E : EK3) : Prop := ∀ (pins : List (Addr × Obj)) (σ : St) (H : Hp) (s : Shared) (h' : Heap) (a C : Addr) (vs : List Value) (nm : Str) (ρ : En) (M : MH),
 Inv X pins σ H s → Heap.MadeExcOf s.heap h' a (.ref C) vs → X.mg nm = some (.ref C) → Kp X.K Ha H → RhoR X.K σ H ρ → HR X.K H M → E nm ρ M → X.xe (.ref a) { s with heap := h' }
noncomputable def HEX (X : Cx) (Ha : Hp) (e : Expr) (t : TE3) : Prop := ∀ ρ M Q, t ρ M Q → PE X e (fun σ H Q2 => Kp X.K Ha H ∧ bE X.K ρ M Q σ H Q2)
noncomputable def HTX (X : Cx) (Ha : Hp) (e : Expr) (t : TT3) : Prop := ∀ ρ M Q, t ρ M Q → PT X e (fun σ H Q2 => Kp X.K Ha H ∧ bT X.K ρ M Q σ H Q2)
noncomputable def HSX (X : Cx) (Ha : Hp) (st : Stmt) (t : TS3) : Prop := ∀ D ρ M, t D ρ M → PS X st (fun D2 σ H => Kp X.K Ha H ∧ bS X.K D ρ M D2 σ H)
noncomputable def HSsX (X : Cx) (Ha : Hp) (st : List Stmt) (t : TS3) : Prop := ∀ D ρ M, t D ρ M → PSs X st (fun D2 σ H => Kp X.K Ha H ∧ bS X.K D ρ M D2 σ H)
noncomputable def dEX (K : PySem.W.Frag) (Ha : Hp) (ρ : En) (t : TE3) : TE := fun σ H Q2 => ∃ M Q, t ρ M Q ∧ Kp K Ha H ∧ bE K ρ M Q σ H Q2
noncomputable def dTX (K : PySem.W.Frag) (Ha : Hp) (ρ : En) (t : TT3) : TT := fun σ H Q2 => ∃ M Q, t ρ M Q ∧ Kp K Ha H ∧ bT K ρ M Q σ H Q2
noncomputable def dSX (K : PySem.W.Frag) (Ha : Hp) (t : TS3) : TS := fun D2 σ H => ∃ D ρ M, t D ρ M ∧ Kp K Ha H ∧ bS K D ρ M D2 σ H
section
variable {X : Cx} {Ha : Hp} {a b c e : Expr} {es : List Expr} {st : Stmt} {rest ba bb body : List Stmt} {ta tb te : TE3} {tA : TT3} {t u : TS3} {pos : Pos}
theorem HEX.d {ρ : En} (h : HEX X Ha e te) : PE X e (dEX X.K Ha ρ te) := fun pins s σ H Q I ⟨M, Q3, q, b⟩ => h ρ M Q3 q pins s σ H Q I b
theorem HTX.d {ρ : En} (h : HTX X Ha e tA) : PT X e (dTX X.K Ha ρ tA) := fun pins s σ H Q I ⟨M, Q3, q, b⟩ => h ρ M Q3 q pins s σ H Q I b
theorem HSX.d (h : HSX X Ha st t) : PS X st (dSX X.K Ha t) := fun pins s σ H D I ⟨D3, ρ, M, q, b⟩ => h D3 ρ M q pins s σ H D I b
theorem HSsX.d (h : HSsX X Ha body t) : PSs X body (dSX X.K Ha t) := fun pins s σ H D I ⟨D3, ρ, M, q, b⟩ => h D3 ρ M q pins s σ H D I b
theorem HT.x (h : HT X e tA) : HTX X Ha e tA := fun ρ M Q q => (h ρ M Q q).imp fun σ H Q2 b => b.2
theorem HS.x (h : HS X st t) : HSX X Ha st t := fun D ρ M q => (h D ρ M q).imp fun D2 σ H b => b.2
theorem HSs.x (h : HSs X body t) : HSsX X Ha body t := fun D ρ M q => (h D ρ M q).imp fun D2 σ H b => b.2
theorem PS.nox {s : Stmt} {t : TS} (h : PS X.nox s t) : PS X s t := fun pins s σ H D I hw =>
 wpAny_mono (h pins s σ H D (I.wish _) hw) (fun _ _ q => q.unwish) fun _ _ z => False.elim z
theorem HT.n (h : HT X.nox e tA) : HT X e tA := fun ρ M Q q => (h ρ M Q q).nox
theorem HS.n (h : HS X.nox st t) : HS X st t := fun D ρ M q => (h D ρ M q).nox
theorem EndS.nxX {K : PySem.W.Frag} {H : Hp} {D : Ends3} {D2 : Ends} {t : TS3} (h : EndS K H D D2) (ka : Kp K Ha H) : EndS K H { D with nx := t D } { D2 with nx := dSX K Ha t D2 } :=
 ⟨fun ρ' M' σ' H' k r hh q => ⟨D, ρ', M', q, ka.trans k, r, hh, h.kp k⟩, h.rt, h.bk, h.ct⟩
theorem ss_consX (h1 : HSX X Ha st t) (h2 : HSsX X Ha rest u) : HSsX X Ha (st :: rest) (tSeq3 t u) := fun D ρ M h =>
 (pss_cons h1.d h2.d).imp fun D2 σ H ⟨ka, hr, hh, en⟩ => ⟨{ D with nx := u D }, ρ, M, h, ka, hr, hh, en.nxX ka⟩
theorem ss_oneX (h1 : HSX X Ha st t) : HSsX X Ha [st] t := fun D ρ M h => pss_one (h1 D ρ M h)
theorem ss_nilX : HSsX X Ha [] tNext3 := ss_nil.x
theorem s_retX (he : HEX X Ha e te) : HSX X Ha (.Return (some e) pos) (tRet3 te) := fun D ρ M h =>
 (ps_ret (he.d (ρ := ρ))).imp fun D2 σ H ⟨ka, hr, hh, en⟩ => ⟨M, _, h, ka, hr, hh, en.rt⟩
theorem s_exprX (he : HEX X Ha e te) (hs : swapsWith e none pos.line X.env = pure false := by rfl) : HSX X Ha (.Expr e pos) (tDrop3 te) := fun D ρ M h =>
 (ps_expr (he.d (ρ := ρ)) hs).imp fun D2 σ H ⟨ka, hr, hh, en⟩ => ⟨M, _, h, ka, hr, hh, fun x v M1 H1 k1 h1 r1 q1 => en.nx ρ M1 σ H1 k1 (hr.kp k1) h1 q1⟩
theorem s_setX {i : Nat} {x : Str} {pos' : Pos} (he : HEX X Ha e te) (hN : X.N.Nodup) (hi : X.N[i]? = some x := by rfl) (hx : Loc X.env.scope x := by first | exact Or.inl rfl | exact Or.inr rfl) (hs : swapsWith e (some (.Name x pos')) pos.line X.env = pure false := by rfl)
   (hf : X.fn x = true ∨ X.env.scope.names.lookup x = some .local := by first | exact .inl rfl | exact .inr rfl | assumption) : HSX X Ha (.Assign [.Name x pos'] e pos) (tSet3 i te) := fun D ρ M h =>
 (ps_set hN hi hx (he.d (ρ := ρ)) hs hf).imp fun D2 σ H ⟨ka, hr, hh, en⟩ => ⟨M, _, h, ka, hr, hh, fun t v M1 H1 k1 h1 r1 q1 => en.nx _ M1 _ H1 k1 ((hr.kp k1).set i r1) h1 q1⟩
theorem s_ifX (hc : HTX X Ha c tA) (ha : HSsX X Ha ba t) (hb : HSsX X Ha bb u) : HSX X Ha (.If c ba bb pos) (tIfS3 tA t u) := fun D ρ M h =>
 (ps_if (hc.d (ρ := ρ)) ha.d hb.d).imp fun D2 σ H ⟨ka, hr, hh, en⟩ => ⟨M, _, h, ka, hr, hh, fun b M1 H1 k1 h1 q1 => by
   dsimp only at q1 ⊢
   split
   · rename_i hb; rw [if_pos hb] at q1
     exact ⟨D, ρ, M1, q1, ka.trans k1, hr.kp k1, h1, en.kp k1⟩
   · rename_i hb; rw [if_neg hb] at q1
     exact ⟨D, ρ, M1, q1, ka.trans k1, hr.kp k1, h1, en.kp k1⟩⟩
theorem dOpX {ρ : En} {M : MH} {Q : VK3} {r : R3} (h : tOp3 r ta tb ρ M Q) {σ : St} {H : Hp} {Q2 : VK} (ka : Kp X.K Ha H) (b : bE X.K ρ M Q σ H Q2) : tOp (dR X.K r) (dEX X.K Ha ρ ta) (dEX X.K Ha ρ tb) σ H Q2 := by
 obtain ⟨hr, hh, en⟩ := b
 refine ⟨M, _, h, ka, hr, hh, fun t v M1 H1 k1 h1 r1 q1 => ⟨M1, _, q1, ka.trans k1, hr.kp k1, h1, fun t2 v2 M2 H2 k2 h2 r2 q2 => ⟨t, t2, M2, Q, Rep.kp k2 _ _ r1, r2, h2, q2, en.kp (k1.trans k2)⟩⟩⟩
theorem h_binX {op : Operator} {r : R3} (ho : OpR3 X (binaryOp op) r) (ha : HEX X Ha a ta) (hb : HEX X Ha b tb) : HEX X Ha (.BinOp a op b pos) (tOp3 r ta tb) := fun ρ M Q h =>
 (pe_op ho (ha.d (ρ := ρ)) (hb.d (ρ := ρ))).imp fun σ H Q2 b => dOpX h b.1 b.2
theorem h_cmpX {op : CmpOp} {r : R3} (ho : OpR3 X (compareOp op) r) (ha : HEX X Ha a ta) (hb : HEX X Ha b tb) (hm : behindInMarks op b = false) : HEX X Ha (.Compare a [op] [b] pos) (tOp3 r ta tb) := fun ρ M Q h =>
 (pe_cmpR ho (ha.d (ρ := ρ)) (hb.d (ρ := ρ)) hm).imp fun σ H Q2 b => dOpX h b.1 b.2
end
noncomputable abbrev Sp3X := List T → MH → VK3 → (Str → MH → Prop) → Prop
noncomputable def dSpX (K : PySem.W.Frag) (mg : Str → Option Value) (sp : Sp3X) : Sp := fun vs H Q2 E2 => ∃ ts M Q E, Reps K H vs ts ∧ HR K H M ∧ sp ts M Q E ∧ EndE K H Q Q2 ∧
 ∀ nm C M' H', Kp K H H' → HR K H' M' → mg nm = some (.ref C) → E nm M' → E2 (.ref C) none H'
structure DfX (P : Program) (w : World) (K : PySem.W.Frag) (mg : Str → Option Value) (base : Heap) (n : Nat) (x : Str) (ps : List Str) (sp : Sp3X) : Prop where
 out : ∃ f fd, FnOk P w K mg base (CXE P w) n f fd ps (dSpX K mg sp) ∧ mg x = some (.ref f) ∧ PySem.W.keepIn K (.ref f) = true ∧ Binds K fd ps []
theorem DfX.mono {P : Program} {w : World} {K : PySem.W.Frag} {mg : Str → Option Value} {base : Heap} {n m : Nat} {x : Str} {ps : List Str} {sp : Sp3X} (D : DfX P w K mg base n x ps sp) (h : n ≤ m) : DfX P w K mg base m x ps sp := by
 obtain ⟨f, fd, F, a, b, c⟩ := D.out
 exact ⟨f, fd, F.mono h, a, b, c⟩
section
variable {X : Cx} {Ha : Hp} {e : Expr} {es : List Expr} {t : TA3} {pos : Pos}
noncomputable def tCallX (E : EK3) (sp : Sp3X) (t : TA3) : TE3 := fun ρ M Q => t ρ M fun ts M1 => sp ts M1 Q fun nm M2 => E nm ρ M2
theorem h_callX {n : Nat} {x : Str} {ps : List Str} {sp : Sp3X} {p : Pos} {E : EK3} (A : Acc X Ha E) (hex : X.ex = []) (D : DfX X.prog X.w X.K X.mg X.base n x ps sp) (hr : Room n X.A) (ha : HA X (e :: es) t) (hg : Gl X x := by rfl) (hdb : (x == ("__debug__" : Str)) = false := by decide)
   (he : starEach (e :: es) X.env = (false, eval e X.env) :: starEach es X.env := by rfl) (hpl : (backTo pos (starEach es X.env)).any (·.1) = false := by rfl) :
   HEX X Ha (.Call (.Name x p) (e :: es) [] pos) (tCallX E sp t) := by
 intro ρ M Q h pins s σ H Q2 I bb
 obtain ⟨ka, hrr, hh, en⟩ := bb
 obtain ⟨f, fd, F, hm, hk, hb⟩ := D.out
 refine wpAny_Call_Name_kw (ld_glob I hg hm ?_ hdb)
 refine PySem.W.callWith_K (h₀ := X.base) I.ok.mod.kin hk (thn (ha ρ M _ h pos pins s σ H (fun vs H1 => ∃ ts M1, Kp X.K H H1 ∧ HR X.K H1 M1 ∧ Reps X.K H1 vs ts ∧ sp ts M1 Q fun nm M2 => E nm ρ M2) I ⟨hrr, hh, fun ts vs M1 H1 k1 h1 r1 q1 => ⟨ts, M1, k1, h1, r1, q1⟩⟩) fun us s1 ⟨vs, H1, I1, r, ts, M1, k1, h1, r1, q1⟩ => ⟨I1.kIn, ?_⟩) he hpl
 have r2 : Vals (vs ++ []) (us ++ []) := r.append .nil
 have q2 : dSpX X.K X.mg sp (vs ++ []) H1 Q2 (fun C _ H' => ∃ c nm M', C = .ref c ∧ X.mg nm = some (.ref c) ∧ Kp X.K H1 H' ∧ HR X.K H' M' ∧ E nm ρ M') :=
   ⟨ts, M1, Q, _, by rw [List.append_nil]; exact r1, h1, q1, en.kp k1, fun nm C M' H' k' h' m' e' => ⟨C, nm, M', rfl, m', k', h', e'⟩⟩
 have hl : (us ++ []).length = ps.length := by rw [← r2.length]; exact F.len _ _ _ _ q2
 refine wpAny_call (codeAny_mono (F.run X.A X.stack s1 H1 ⟨us, []⟩ (us ++ []) (vs ++ []) Q2 _ hr I1.env0 (hb s1 us I1.kIn hl) r2 q2) fun r s' hq => ?_)
 cases r with
 | error e =>
   obtain ⟨a, C, H', rfl, os, bare, un, hok, fly, c, nm, M', rfl, m', k', h', e'⟩ := hq
   have J := I1.call' (H' := H') (ch := []) os un hok bare (fun b z => absurd z (by simp))
   exact A pins σ H' s' s1.heap a c nm ρ M' J fly (I1.older hex) m' (ka.trans (k1.trans k')) (hrr.kp (k1.trans k')) h' e'
 | ok fl =>
   cases fl with
   | ret u => exact I1.after hq
   | next => exact False.elim hq
   | brk => exact False.elim hq
   | cont => exact False.elim hq
end
end L2
namespace L2
open PySem PySem.Spec PyProof.Rows
noncomputable abbrev bmVE : List Value := [.type "ValueError", .type "Exception", .type "BaseException", .type "object"]
noncomputable def XCl (K : PySem.W.Frag) (mg : Str → Option Value) (nm : Str) : Prop := ∃ C, mg nm = some (.ref C) ∧ PySem.W.excIn K C bmVE "ValueError.__new__" = true
theorem exc_of {K : PySem.W.Frag} {h : Heap} {C : Addr} (X : K.In h) (q : PySem.W.excIn K C bmVE "ValueError.__new__" = true) :
   ∃ bm N nm qn bs hd sn sub ab col dd k0 k1 k2 k3 k5 mN, h.get? C = some (excClassObj nm qn C N bs bm hd sn sub ab col dd k0 k1 k2 k3 k5 "ValueError.__new__") ∧ h.Ns N mN ∧ mN "__init__" = none ∧ OwnTail h bmVE bm := by
 unfold PySem.W.excIn at q
 split at q
 case h_2 => cases q
 rename_i dd cd sl ho
 split at q
 case h_2 => cases q
 rename_i C' bm k0 k1 k2 k3 n k5 hm hs
 simp only [Bool.and_eq_true, beq_iff_eq, Bool.not_eq_true'] at q
 obtain ⟨⟨⟨⟨⟨e1, e2⟩, e3⟩, e4⟩, e5⟩, e6⟩ := q
 subst e1 e2
 refine ⟨bm, cd.ns, cd.name, cd.qualname, cd.bases, cd.hasDict, cd.slotNames, cd.subclasses, cd.abstract, cd.collection, dd, k0, k1, k2, k3, k5, _, ?_, .of_isNs (PySem.W.isNs_of_in X e5), PySem.W.nsMap_none_of_in X e5 e6, PySem.W.tail_of_in X e4⟩
 have es : sl = #[k0, k1, k2, k3, some (.builtin "ValueError.__new__"), k5] := Array.toList_inj.mp (by simpa using hs)
 rw [X _ _ ho, es]
 cases cd
 simp only at hm e3
 subst hm e3
 rfl
section
variable {X : Cx} {Ha : Hp} {e : Expr} {te : TE3} {pos : Pos}
noncomputable def tRaise3 (E : EK3) (nm : Str) (te : TE3) : TS3 := fun _ ρ M => te ρ M fun _ M1 => E nm ρ M1
theorem s_raiseX {E : EK3} {x : Str} {np cpos : Pos} (A : AccN X Ha E) (hc : XCl X.K X.mg x) (ha : HE X e te) (hcalm : X.calm = true := by rfl) (hg : Gl X x := by rfl) (hdb : (x == ("__debug__" : Str)) = false := by decide)
   (he : starEach [e] X.env = (false, eval e X.env) :: starEach [] X.env := by rfl) : HSX X Ha (.Raise (some (.Call (.Name x np) [e] [] cpos)) none pos) (tRaise3 E x te) := by
 intro D ρ M h pins s σ H D2 I bb
 obtain ⟨ka, hr, hh, en⟩ := bb
 obtain ⟨C, hm, hx⟩ := hc
 obtain ⟨bm, N, nm, qn, bs, hd, sn, sub, ab, col, dd, k0, k1, k2, k3, k5, mN, hC, hN, hni, TL⟩ := exc_of I.ok.mod.kin hx
 refine wpAny_Raise_call_subU (C := C) (nm := nm) (q := qn) (N := N) (bs := bs) (bm := bm) (hdct := hd) (sn := sn) (sub := sub) (ab := ab) (col := col) (dd := dd) (k0 := k0) (k1 := k1) (k2 := k2) (k3 := k3) (k5 := k5)
   PySem.F.excBase_ValueError (by decide) PySem.F.excBase_ValueError (mN := mN) (TL.hasType (by decide)) (I.ok.hd hcalm) (by rw [he]; rfl) hni (ld_glob I hg hm ⟨rfl, ?_⟩ hdb)
 have w1 := (a_cons ha a_nil he) ρ M (fun ts M1 => ts.length ≤ 1 ∧ E x ρ M1) (show te ρ M (fun y M1 => ([y] : List T).length ≤ 1 ∧ E x ρ M1) from by
   have h' : te ρ M fun _ M1 => E x ρ M1 := h
   simpa using h') cpos pins s σ H (fun vs H1 => ∃ M1, vs.length ≤ 1 ∧ Kp X.K H H1 ∧ HR X.K H1 M1 ∧ E x ρ M1) I ⟨hr, hh, fun ts vs M1 H1 k1 h1 r1 q1 => ⟨M1, by rw [r1.length]; exact q1.1, k1, h1, q1.2⟩⟩
 rw [he] at w1 ⊢
 refine Calls.evalArgs_plain (wpAny_mono w1 (fun us s1 ⟨vs, H1, I1, r, M1, hl, kk, h1, q1⟩ => ?_) fun _ _ z => z)
 refine ⟨rfl, ?_, I1.bk _ _ hC, hN.keeps I1.bk, TL.keeps I1.bk, fun h' a hmade => A pins σ H1 s1 h' a C us x ρ M1 I1 hmade hm (ka.trans kk) (hr.kp kk) h1 q1⟩
 have : us.length ≤ 1 := by rw [← r.length]; exact hl
 exact Nat.le_trans this (by decide)
end
theorem leaves_cx {P : Program} {w : World} {K : PySem.W.Frag} {mg : Str → Option Value} {base : Heap} {N : List Str} {qual : Str} {scope : Scope} {f : Addr} {cd : Value} {A : Around} {outer : List Env} {s : Shared} {H : Hp} {E : XK} :
   Leaves (cxOf (CXE P w) P w K mg base N qual scope f cd A outer s H E) E := ⟨rfl, rfl, rfl, fun _ _ h => h⟩
section
variable {P : Program} {w : World} {K : PySem.W.Frag} {mg : Str → Option Value} {base : Heap}
theorem Fun.dfnX {x qual : Str} {st : Stmt} {f : Addr} {fd : FuncData} {N ps : List Str} {n : Nat} {sp : Sp3X} (F : Fun K x qual st f fd) (hm : mg x = some (.ref f)) (hb : Binds K fd ps []) (S : FnScope N ps (defScope st)) (len : ∀ ts M Q E, sp ts M Q E → ts.length = ps.length)
   (hbody : ∃ t : EK3 → TS3, (∀ (cdv : Value) (A : Around) (outer : List Env) (s : Shared) (H : Hp) (E : XK) (E3 : EK3), Room n (A.deeper (envOfC qual (defScope st) s.heap.objs.size f cdv)) →
     Acc (cxOf (CXE P w) P w K mg base N qual (defScope st) f cdv A outer s H E) H E3 → AccN (cxOf (CXE P w) P w K mg base N qual (defScope st) f cdv A outer s H E) H E3 →
     HSsX (cxOf (CXE P w) P w K mg base N qual (defScope st) f cdv A outer s H E) H (defBody st) (t E3)) ∧
     ∀ ts M Q E, sp ts M Q E → t (fun nm _ M' => ∃ M0, Sub M0 M' ∧ E nm M0) { nx := fun _ M' => rt3 M Q .non M', rt := rt3 M Q } (start3 N ts) M) : DfX P w K mg base (n + 1) x ps sp := by
 obtain ⟨t, hbody, rd⟩ := hbody
 refine ⟨f, fd, ?_, hm, F.kp, hb⟩
 obtain ⟨oc, od, kV, doc, pm, an, cdv, ct, osl, rfl, lk, hcd⟩ := F.ex
 refine fn_of lk hcd S (fun vs H Q E ⟨ts, M, Q3, E3, r, _, q, _⟩ => by rw [r.length]; exact len _ _ _ _ q) fun A outer s H vs Q E hr ⟨ts, M, Q3, Ex, r, hh, q, en, ex⟩ => ?_
 have L := leaves_cx (P := P) (w := w) (K := K) (mg := mg) (base := base) (N := N) (qual := qual) (scope := defScope st) (f := f) (cd := cdv) (A := A) (outer := outer) (s := s) (H := H) (E := E)
 refine ⟨_, hbody cdv A outer s H E (fun nm _ M' => ∃ M0, Sub M0 M' ∧ Ex nm M0) hr (fun pins σ H' s' h0 a C nm ρ M' I fly old m k _ hh' q' => ?_) (fun pins σ H' s' h' a C vs' nm ρ M' I made m k _ hh' q' => ?_) _ _ _ (rd ts M Q3 Ex q), Kp.refl, rho_start r, hh, ⟨?_, ?_, fun _ _ _ _ _ _ _ z => z.elim, fun _ _ _ _ _ _ _ z => z.elim⟩⟩
 · obtain ⟨M0, hs, q2⟩ := q'
   exact leave_on1 L I (fly.older old.start) (ex nm C M0 H' k (hh'.sub hs) m q2)
 · obtain ⟨M0, hs, q2⟩ := q'
   exact leave_new1 L I made (ex nm C M0 H' k (hh'.sub hs) m q2)
 · rintro ρ' M' σ' H' k hr' hh' ⟨M0, hs, q'⟩
   exact en .non .non M0 H' k (hh'.sub hs) rep_non q'
 · rintro t' v' M' H' k hh' r' ⟨M0, hs, q'⟩
   exact en t' v' M0 H' k (hh'.sub hs) r' q'
end
end L2
namespace L2
open PySem PySem.Spec PyProof.Rows
structure XLook (K : PySem.W.Frag) (C : Addr) : Prop where
 ga : PySem.W.findIn K (.ref C) "__getattribute__" = some (some (.builtin "BaseException.__getattribute__"))
 cl : PySem.W.findIn K (.ref C) "__class__" = some (some (.builtin "object.__class__"))
 na : PySem.W.findIn K (.ref C) "__getattr__" = some none
 ob : PySem.W.subIn K (.ref C) (.type "object") = some true
 be : PySem.W.subIn K (.ref C) (.type "BaseException") = some true
 is : (PySem.W.clsIn K C).isSome = true
section
variable {prog : Program} {w : World} {A : Around} {E : Value → Shared → Prop} {s : Shared} {h : Heap} {g : Array GenState} {d : Drawn} {t : Nat} {os : OsState} {a C : Addr} {o : Obj} {K : PySem.W.Frag}
theorem xc_ty {M : Model} (hx : h.get? a = some o) (hc : o.cls = .ref C) : PySem.W.Looks M h (typeOf (.ref a)) (.ref C) := hc ▸ (PySem.W.Looks.ld hx).andThen .now
local macro_rules | `(tactic| walk_at "xc") => `(tactic| (repeat any_goals (first | wp_step | assumption)))
theorem xc_get {R : Result → Shared → Prop} (X : K.In h) (L : XLook K C) (hx : h.get? a = some o) (hc : o.cls = .ref C) (hq : R (.ok (.ret (.ref C))) ⟨h, g, d, t, os⟩) :
   codeAny (model prog w) A (.call (.builtin "getset_descriptor.__get__") ⟨[.builtin "object.__class__", .ref a, .ref C], []⟩) R ⟨h, g, d, t, os⟩ := by
 have k5 : (⟨h, g, d, t, os⟩ : Shared).TypeIs (.builtin "object.__class__") "getset_descriptor" := F.typeOf_object_class
 have k6 := PySem.W.looks_subIn (M := model prog w) X L.ob
 obtain ⟨oc, od, dt, sl⟩ := o
 have hc' : oc = .ref C := hc
 subst hc'
 refine codeAny_call_builtin F.slot_gs_get.plain F.entry_gs_get (F.slot_gs_get.check _ _ _ _ _ _ _ _ k5 (F.args_gs_get _ _ _) ?_)
 walk_at "xc"
 rw [F.owner_object_class]
 refine k6.at ?_
 walk_at "xc"
 refine ⟨Code.quiet_builtin _ (by decide +kernel), codeAny_builtin F.entry_object_class ?_⟩
 walk_at "xc"
theorem xc_check {M : Model} {nameV : Value} {Q : Unit → Shared → Prop} (X : K.In h) (L : XLook K C) (hx : h.get? a = some o) (hc : o.cls = .ref C) (hq : Q () ⟨h, g, d, t, os⟩) :
   wpAny M A (checkBuiltinCall "BaseException.__getattribute__" ⟨[.ref a, nameV], []⟩) Q E ⟨h, g, d, t, os⟩ := by
 have e1 : builtinKind "BaseException.__getattribute__" = some .slot := by decide +kernel
 have e2 : splitId "BaseException.__getattribute__" = some ("BaseException", "__getattribute__") := by decide +kernel
 have k6 := PySem.W.looks_subIn (M := M) X L.be
 have e3 := F.args_bexc_ga (.ref a) nameV
 obtain ⟨oc, od, dt, sl⟩ := o
 have hc' : oc = .ref C := hc
 subst hc'
 simp only [checkBuiltinCall, e1, e2]
 refine wpAny_bind ?_
 unfold isInstance
 walk_at "xc"
 refine k6.at ?_
 walk_at "xc"
theorem xc_entry {tk : Tok} {Q : Fin → Shared → Prop} (X : K.In h) (L : XLook K C) (hx : h.get? a = some o) (hc : o.cls = .ref C) (hq : Q (.done (.ret (.ref C))) ⟨h, g, d, t, os⟩) :
   wpAny (model prog w) A (Builtin.«object.__getattribute__» ⟨[.ref a, .str "__class__" tk], []⟩) Q E ⟨h, g, d, t, os⟩ := by
 have k5 : (⟨h, g, d, t, os⟩ : Shared).TypeIs (.builtin "object.__class__") "getset_descriptor" := F.typeOf_object_class
 have f5 := F.typeOf_object_class
 have f6 := F.slot_gs_get.lookup
 have f7 := F.slot_gs_set.lookup
 have k6 := PySem.W.looks_findIn (M := model prog w) X L.cl
 obtain ⟨oc, od, dt, sl⟩ := o
 have hc' : oc = .ref C := hc
 subst hc'
 walk_at "xc"
 refine k6.at ?_
 walk_at "xc"
 refine xc_get X L hx rfl ?_
 walk_at "xc"
theorem xc_call {tk : Tok} {R : Result → Shared → Prop} (X : K.In h) (L : XLook K C) (hx : h.get? a = some o) (hc : o.cls = .ref C) (hq : R (.ok (.ret (.ref C))) ⟨h, g, d, t, os⟩) :
   codeAny (model prog w) A (.call (.builtin "BaseException.__getattribute__") ⟨[.ref a, .str "__class__" tk], []⟩) R ⟨h, g, d, t, os⟩ :=
 codeAny_call_builtin F.attr_ValueError.ga.plain F.entry_bexc_ga (xc_check X L hx hc (xc_entry X L hx hc hq))
theorem xc_by {tk : Tok} {Q : Value → Shared → Prop} (X : K.In h) (L : XLook K C) (hx : h.get? a = some o) (hc : o.cls = .ref C) (hq : Q (.ref C) ⟨h, g, d, t, os⟩) :
   wpAny (model prog w) A (getAttrBy (.ref a) (.str "__class__" tk) false) Q E ⟨h, g, d, t, os⟩ := by
 have f3 := F.attr_ValueError.ga.bind (.ref a)
 have k7 := PySem.W.looks_findIn (M := model prog w) X L.ga
 have hx2 : (Value.builtin "BaseException.__getattribute__" == Value.builtin "object.__getattribute__") = false := by decide +kernel
 have hx1 : (onTheHeap (Value.ref C) && Value.builtin "BaseException.__getattribute__" == Value.builtin "object.__getattribute__") = false := by rw [hx2]; rfl
 obtain ⟨oc, od, dt, sl⟩ := o
 have hc' : oc = .ref C := hc
 subst hc'
 walk_at "xc"
 refine k7.at ?_
 walk_at "xc"
 refine (PySem.W.looks_findIn (M := model prog w) X L.na).at ?_
 walk_at "xc"
 refine xc_call X L hx rfl ?_
 walk_at "xc"
theorem xc_attr {Q : Option Value → Shared → Prop} (X : K.In h) (L : XLook K C) (hx : h.get? a = some o) (hc : o.cls = .ref C) (hq : Q (some (.ref C)) ⟨h, g, d, t + 1, os⟩) :
   wpAny (model prog w) A (getAttr? (.ref a) "__class__") Q E ⟨h, g, d, t, os⟩ := by
 unfold getAttr? getAttrBy?
 repeat any_goals (first | with_reducible apply xc_by X L hx hc | wp_step | assumption)
end
noncomputable def XAt (a C : Addr) (h : Heap) : Prop := ∃ o, h.get? a = some o ∧ o.cls = .ref C
theorem kitx_exc {K : PySem.W.Frag} {a C : Addr} (L : XLook K C) : PySem.W.KitX K (.ref a) (.ref C) (XAt a C) where
 ty := fun M h _ ⟨o, h1, h2⟩ => xc_ty h1 h2
 it := fun M h X _ => by
   have hcl := L.is
   unfold PySem.W.clsIn at hcl
   split at hcl
   · rename_i c' d' cd' sl' ho
     intro A' Q' E' s' k q
     unfold isType loadHead
     refine wpAny_bind (wpAny_loadPart (k _ _ (X _ _ ho)) ?_)
     exact wpAny_pure q
   · simp at hcl
 ne := fun h tp dd its n sl X htp => by
   refine Bool.eq_false_iff.mpr fun q => ?_
   have e := Value.ref.inj (beq_iff_eq.mp q)
   subst e
   have hcl := L.is
   unfold PySem.W.clsIn at hcl
   split at hcl
   · rename_i c' d' cd' sl' ho
     cases (X _ _ ho).symm.trans htp
   · simp at hcl
 ca := fun {prog w A E Q s} X ⟨o, h1, h2⟩ k => by
   obtain ⟨h, g, d, t, os⟩ := s
   exact xc_attr X L h1 h2 k
end L2
namespace L2
open PySem PySem.Spec PyProof.Rows
noncomputable abbrev CX0' : CXT := fun _ _ _ _ _ _ => False
structure RoomH (k : Nat) (A : Around) : Prop where
 dp : A.depth + 3 * k + 5 < recursionLimit
 un : A.units + 16 * k + 200 < cLine
theorem RoomH.depth {k : Nat} {A : Around} (r : RoomH k A) : A.depth < recursionLimit := by have := r.dp; lia
theorem RoomH.deeper {k : Nat} {A : Around} (r : RoomH (k + 1) A) (env : Env) : RoomH k (A.deeper env) :=
 ⟨by have := r.dp; show A.depth + 1 + 3 * k + 5 < _; lia, by have := r.un; show A.units + 3 + 16 * k + 200 < _; lia⟩
structure FnOkH (P : Program) (w : World) (K : PySem.W.Frag) (mg : Str → Option Value) (base : Heap) (k : Nat) (f : Addr) (fd : FuncData) (ps : List Str) (sp : Sp) : Prop where
 len : ∀ vs H Q E, sp vs H Q E → vs.length = ps.length
 run : ∀ (A : Around) (outer : List Env) (s : Shared) (H : Hp) (args : Args) (us : List Value) (vs : List V) (Q : VK) (E : XK), RoomH k A → Env0 P w K mg base A outer s H → BindsTo s fd args (ps.zip us) → Vals vs us → sp vs H Q E →
   codeAny (model P w) A (.call (.ref f) args) (CR CX0' outer P w H s Q E) s
noncomputable def cxOfH (CX : CXT) (P : Program) (w : World) (K : PySem.W.Frag) (mg : Str → Option Value) (base : Heap) (N : List Str) (qual : Str) (scope : Scope) (f : Addr) (cd : Value) (A : Around) (outer : List Env) (s : Shared) (H : Hp) (E : XK) : Cx where
 prog := P
 w := w
 K := K
 mg := mg
 base := base
 A := A.deeper (envOfC qual scope s.heap.objs.size f cd)
 N := N
 s₀ := s
 H₀ := H
 env := envOfC qual scope s.heap.objs.size f cd
 outer := outer
 stack := envOfC qual scope s.heap.objs.size f cd :: outer
 ex := []
 calm := false
 fn := fun _ => true
 pn := []
 xe := fun _ _ => False
theorem inv_startH {P : Program} {w : World} {K : PySem.W.Frag} {mg : Str → Option Value} {base : Heap} {N ps : List Str} {qual : Str} {scope : Scope} {f : Addr} {cd : Value} {A : Around} {outer : List Env} {s s1 : Shared} {H : Hp} {E : XK} {us : List Value} {vs : List V}
   (S : FnScope N ps scope) (e0 : Env0 P w K mg base A outer s H) (hl : vs.length = ps.length) (r : Vals vs us)
   (x : InCallC s s.heap.objs.size (bindL (envOfC qual scope s.heap.objs.size f cd).kindOf (ps.zip us) fun _ => none) (cellsFrom (s.heap.objs.size + 1) scope.names []) (bindC (envOfC qual scope s.heap.objs.size f cd).kindOf (ps.zip us) fun _ => none) s1) :
   Inv (cxOfH CX0' P w K mg base N qual scope f cd A outer s H E) [] (start N vs) H s1 := by
 have hpl : ps.length ≤ N.length := by have := congrArg List.length S.pre; rw [List.length_take] at this; lia
 obtain ⟨h1, tk, rfl, hk⟩ := x.done
 have noA : ∀ b : Addr, b ∉ (cxOfH CX0' P w K mg base N qual scope f cd A outer s H E).ex := fun b z => absurd (show b ∈ ([] : List Addr) from z) (by simp)
 refine ⟨⟨e0.mod, S.kind, rfl, rfl, Nat.le_refl _, fun y z c h1 h2 => ?_, fun y hy => ?_, fun y c _ h => ?_, fun z => Bool.noConfusion z, Around.frames_deeper e0.frames, .inr ⟨rfl, rfl⟩, fun b z => absurd z (noA b), e0.bs, e0.bsz, fun b _ _ => noA b, fun b z => absurd z (noA b), e0.funs, e0.frf⟩,
   rfl, e0.bare, Un.kept hk, ⟨_, x.toInCall.ns, fun i y v h1 h2 h3 => ?_⟩, fun y c h => ⟨_, x.cell y c h⟩, e0.hok.fresh (Nat.le_refl _), fun y c h => ?_, fun p hp => absurd (show p ∈ ([] : List (Addr × Obj)) from hp) (by simp), e0.hok.kept hk, ?_⟩
 · exact name_of_addr x.apart (PySem.mem_of_lookup h1) (PySem.mem_of_lookup h2)
 · have hy : scope.names.lookup y = some .cell ∨ scope.names.lookup y = some .free := hy
   rcases hy with hy | hy
   · exact cell_has hy
   · exact absurd rfl (S.nofree _ (PySem.mem_of_lookup hy))
 · exact Nat.le_of_lt (x.above y c (PySem.mem_of_lookup h))
 · have hi : i < vs.length := by
     unfold start at h2
     by_cases hi : i < vs.length
     · exact hi
     · rw [List.getElem?_append_right (by simpa using hi)] at h2
       rw [List.getElem?_replicate] at h2
       split at h2 <;> cases h2
   have ha : vs[i]? = some v := by
     unfold start at h2
     rw [List.getElem?_append_left (by simpa using hi), List.getElem?_map] at h2
     cases e : vs[i]? with
     | none => rw [e] at h2; cases h2
     | some a => rw [e] at h2; cases h2; rfl
   obtain ⟨u, hu, rv⟩ := r.get ha
   have hp : ps[i]? = some y := by
     rw [← S.pre, List.getElem?_take_of_lt (by lia)]; exact h1
   have ndP : ps.Nodup := by rw [← S.pre]; exact S.nd.sublist (List.take_sublist _ _)
   refine ⟨u, rv, ?_⟩
   rcases S.par y (List.mem_of_getElem? hp) with k | k
   · exact .inl ⟨k, bindL_get ndP hp hu k⟩
   · obtain ⟨c, e⟩ := cell_has (n := s.heap.objs.size + 1) k
     refine .inr ⟨.inl k, c, e, ?_⟩
     have q := x.cell y c e
     rw [bindC_get ndP hp hu (by show scope.names.lookup y ≠ _; rw [k]; decide)] at q
     exact q
 · exact e0.hok.fresh (Nat.le_of_lt (x.above y c (PySem.mem_of_lookup h)))
 · unfold start
   show _ = N.length
   rw [List.length_append, List.length_map, List.length_replicate]
   lia
theorem fn_ofH {P : Program} {w : World} {K : PySem.W.Frag} {mg : Str → Option Value} {base : Heap} {k : Nat} {f : Addr} {name qual : Str} {params : Arguments} {body : List Stmt} {scope : Scope} {dV kV doc pm cdv ct oc : Value} {an od : Option Addr}
   {osl : Array (Option Value)} {N ps : List Str} {sp : Sp} (lk : K.lookup f = some ⟨oc, od, .func (PySem.W.fnOf name qual params body scope dV kV doc pm an cdv ct), osl⟩) (hcd : PySem.W.codeIn K cdv qual = true) (S : FnScope N ps scope)
   (len : ∀ vs H Q E, sp vs H Q E → vs.length = ps.length)
   (hbody : ∀ (A : Around) (outer : List Env) (s : Shared) (H : Hp) (vs : List V) (Q : VK) (E : XK), RoomH k (A.deeper (envOfC qual scope s.heap.objs.size f cdv)) → sp vs H Q E →
     ∃ t, PSs (cxOfH CX0' P w K mg base N qual scope f cdv A outer s H E) body t ∧ t { nx := fun _ H' => Q .non H', rt := Q } (start N vs) H) :
   FnOkH P w K mg base (k + 1) f (PySem.W.fnOf name qual params body scope dV kV doc pm an cdv ct) ps sp := by
 refine ⟨len, fun A outer s H args us vs Q E hr e0 hb r hsp => ?_⟩
 have hl := len _ _ _ _ hsp
 have KX : K.In s.heap := e0.mod.kin.keeps fun b o e => (e0.bs b o e).1
 have lim : s.heap.NoLimit := e0.mod.nolimit.keeps fun b o e => (e0.bs b o e).1
 have hkind : ∀ y ∈ ps.zip us, scope.names.lookup y.1 = some .local ∨ (scope.names.lookup y.1 = some .cell ∧ ((cellsFrom (s.heap.objs.size + 1) scope.names []).lookup y.1).isSome = true) := fun ⟨n, v⟩ hy => by
   rcases S.par n (List.of_mem_zip hy).1 with q | q
   · exact .inl q
   · exact .inr ⟨q, PySem.W.cellsFrom_some _ _ _ (.inl q)⟩
 refine codeAny_call_function hr.depth (KX _ _ lk) rfl S.co S.gen rfl (PySem.W.codeRec_of KX hcd) (hb _ _ _ _ ?_)
 refine wpAny_newFunctionEnv_cells S.kind hkind fun env he s1 x => ?_
 subst he
 refine ⟨lim.keeps x.toInCall.keep, codeAny_func ?_⟩
 obtain ⟨t, ht, hq⟩ := hbody A outer s H vs Q E (hr.deeper _) hsp
 have I : Inv (cxOfH CX0' P w K mg base N qual scope f cdv A outer s H E) [] (start N vs) H s1 := inv_startH S e0 hl r x
 refine wpAny_mono (ht [] s1 (start N vs) H _ I hq) (fun fl s' hs => ?_) fun e s' hs => hs.elim
 have fin : ∀ {σ' : St} {H' : Hp} {v : V} {u : Value}, Inv (cxOfH CX0' P w K mg base N qual scope f cdv A outer s H E) [] σ' H' s' → RelV v u → Q v H' → CE outer P w H s Q u s' :=
   fun {σ' H' v u} J rv q => ⟨v, H', J.os, J.bare, J.base, J.hok, rv, q⟩
 cases fl with
 | ret u =>
   obtain ⟨v, σ', H', J, rv, q⟩ := hs
   exact fin J rv q
 | next =>
   obtain ⟨σ', H', J, q⟩ := hs
   exact fin (v := V.non) (u := Value.none) J rfl q
 | brk =>
   obtain ⟨_, _, _, q⟩ := hs
   exact False.elim q
 | cont =>
   obtain ⟨_, _, _, q⟩ := hs
   exact False.elim q
end L2
namespace L2
open PySem PySem.Spec PyProof.Rows
structure XOne (K : PySem.W.Frag) (mg : Str → Option Value) (P C : Addr) (nm : Str) : Prop where
 mg : mg nm = some (.ref C)
 ok : PySem.W.excIn K C bmVE "ValueError.__new__" = true
 lk : XLook K C
 up : PySem.W.subIn K (.ref C) (.ref P) = some true
 ve : PySem.W.kitOne K (.ref C) (.type "ValueError") = some true
section
variable {X : Cx} {pos : Pos}
noncomputable def tIsX (i : Nat) (D : Value) (K : PySem.W.Frag) : TE := fun σ H Q => ∃ a C b, σ[i]? = some (some (.ref a)) ∧ (∃ φ, H a = some (.ext φ) ∧ ∀ h, φ h → XAt a C h) ∧ XLook K C ∧ PySem.W.kitOne K (.ref C) D = some b ∧ Q (.bl b) H
theorem pe_isx {i : Nat} {x y : Str} {D : Value} {p p1 p2 : Pos} (hN : X.N[i]? = some x) (hv : Vis X.env.scope x) (hm : X.mg "isinstance" = none) (hD : ∀ (pins : List (Addr × Obj)) (s : Shared) (σ : St) (H : Hp) (Q : Value → Shared → Prop) (E : Value → Shared → Prop), Inv X pins σ H s → Q D s → wpAny (model X.prog X.w) X.A (eval (.Name y p2) X.env) Q E s)
   (hx1 : (x == ("__debug__" : Str)) = false) (hx2 : (x == ("__classdict__" : Str)) = false) (hg : Gl X "isinstance" := by rfl)
   (he : starEach [.Name x p1, .Name y p2] X.env = (false, eval (.Name x p1) X.env) :: (false, eval (.Name y p2) X.env) :: [] := by rfl) :
   PE X (.Call (.Name "isinstance" p) [.Name x p1, .Name y p2] [] pos) (tIsX i D X.K) := by
 intro pins s σ H Q I ⟨a, C, b, e1, ⟨φ, e2, e3⟩, L, e4, q⟩
 refine wpAny_Call_Name_kw (ld_blt I hg hm boot_isinstance ?_ (by decide) (by decide))
 have hpl : (backTo pos (starEach [.Name y p2] X.env)).any (·.1) = false := by
   have : starEach [Expr.Name y p2] X.env = [(false, eval (.Name y p2) X.env)] := rfl
   rw [this]; rfl
 refine PyProof.Rows.callWith_builtin1 ?_ (by rfl) hpl
 rw [he]
 refine Calls.spliced_cons (thn ((pe_var hN hv hx1 hx2) pins s σ H (fun v H1 => v = .ref a ∧ H1 = H) I ⟨.ref a, e1, rfl, rfl⟩) fun u s1 ⟨v, H1, I1, r, ev, eh⟩ => ?_)
 subst ev eh
 obtain rfl : u = Value.ref a := r
 refine Calls.spliced_cons (hD pins s1 σ H1 _ _ I1 (Calls.spliced_nil ?_))
 obtain ⟨hφ, _, _⟩ := I1.hok a _ e2
 exact PySem.W.kia_one (kitx_exc L) I1.kIn (e3 _ hφ) e4 (fun z => nomatch z) fun tk => ⟨.bl b, H1, I1.tok _, rfl, q⟩
end
end L2
namespace L2
open PySem PySem.Spec PyProof.Rows
section
variable {X : Cx} {pins : List (Addr × Obj)} {σ : St} {H : Hp} {s : Shared}
theorem Inv.flown {B h2 : Heap} {a T : Addr} (I : Inv X pins σ H s) (hx : X.ex = []) (hst : X.stack = X.env :: X.outer) (hfr : X.env.frame = some X.env.locals)
   (hB : ∀ b o, s.heap.get? b = some o → b ∉ frs X.stack → b ≠ a → b ≠ T → B.get? b = some o) (k1 : B.StaysIn h2) (k4 : s.heap.UpToSlots h2)
   (na : H a = none ∧ X.s₀.heap.get? a = none ∧ ∀ p ∈ X.pn ++ pins, p.1 ≠ a) (nT : H T = none ∧ X.s₀.heap.get? T = none ∧ ∀ p ∈ X.pn ++ pins, p.1 ≠ T) : Inv X pins σ H { s with heap := h2 } := by
 have fs : frs X.stack = X.env.locals :: X.fs := by
   rw [hst]; unfold frs; rw [List.filterMap_cons, hfr]; rfl
 have nL : ∀ b, X.s₀.heap.get? b ≠ none → b ≠ X.env.locals := fun b hb z => by
   cases q : X.s₀.heap.get? b with
   | none => exact hb q
   | some o => exact absurd (Heap.lt_size q) (Nat.not_lt.mpr (by rw [z]; exact I.ok.above))
 have stay : ∀ b o, s.heap.get? b = some o → b ∉ frs X.stack → b ≠ a → b ≠ T → h2.get? b = some o := fun b o q hf h1 h2 => k1 b o (hB b o q hf h1 h2)
 have ne0 : ∀ b o, X.s₀.heap.get? b = some o → b ≠ a ∧ b ≠ T := fun b o q =>
   ⟨fun z => (by rw [z, na.2.1] at q; cases q), fun z => (by rw [z, nT.2.1] at q; cases q)⟩
 have dfr : ∀ b ∈ frs X.stack, ∃ o, s.heap.get? b = some o ∧ ∀ vs, o.data ≠ .fields vs := fun b hb => (I.stack.mem hb).2
 obtain ⟨m, hn, hl⟩ := I.loc
 have cellk : ∀ c v, s.heap.IsCell c v → h2.IsCell c v := fun c v hc => by
   obtain ⟨o, ho, hd⟩ := hc
   obtain ⟨sl, e⟩ := k4 c o ho fun vs q => by rw [hd] at q; cases q
   exact ⟨_, e, hd⟩
 refine ⟨I.ok, I.os, I.bare, ⟨fun b o q n hf hb => ?_, fun b o q n hf hb => ?_, fun b o q n hb => I.base.free b o q n hb, fun b o q hb => ?_, I.base.tups, I.base.frzs, I.base.tbls⟩, ⟨m, k4.ns hn, fun i x v e1 e2 e3 => ?_⟩, fun x c e => ?_, I.free, I.freeC, fun p hp => ?_, fun b u q => ?_, I.len⟩
 · have e1 := I.base.keep b o q n hf hb
   refine stay b o e1 ?_ (ne0 b o q).1 (ne0 b o q).2
   rw [fs]
   intro hm
   rcases List.mem_cons.mp hm with z | z
   · exact nL b (by rw [q]; simp) z
   · exact hf z
 · obtain ⟨sl, e1⟩ := I.base.slot b o q n hf hb
   obtain ⟨o2, e2, e3⟩ := dfr b (by rw [fs]; exact List.mem_cons_of_mem _ hf)
   rw [e1] at e2
   cases e2
   obtain ⟨sl', e4⟩ := k4 b _ e1 e3
   exact ⟨sl', e4⟩
 · obtain ⟨o', e1⟩ := I.base.there b o q hb
   by_cases hm : b ∈ frs X.stack
   · obtain ⟨o2, e2, e3⟩ := dfr b hm
     obtain ⟨sl, e4⟩ := k4 b o2 e2 e3
     exact ⟨_, e4⟩
   · exact ⟨_, stay b o' e1 hm (ne0 b o q).1 (ne0 b o q).2⟩
 · obtain ⟨u, r, q⟩ := hl i x v e1 e2 e3
   refine ⟨u, r, ?_⟩
   rcases q with q | ⟨k, c, e, z⟩
   · exact .inl q
   · exact .inr ⟨k, c, e, cellk _ _ z⟩
 · obtain ⟨v, z⟩ := I.cell x c e
   exact ⟨v, cellk _ _ z⟩
 · obtain ⟨e, n, ne, nf, d⟩ := I.pin p hp
   refine ⟨stay p.1 p.2 e ?_ (na.2.2 p hp) (nT.2.2 p hp), n, ne, nf, d⟩
   rw [fs]
   intro hm
   rcases List.mem_cons.mp hm with z | z
   · exact ne z
   · exact nf z
 · refine (I.hok b u q).stay (fun c v hc r => ?_) (fun _ r => r) fun _ _ r => r
   have hne : H c ≠ none := by
     rcases hc with rfl | hc
     · rw [q]; simp
     · rw [hc]; simp
   refine stay c v r (fun hm => hne (I.stkFree c hm)) ?_ ?_
   · rintro rfl; exact hne na.1
   · rintro rfl; exact hne nT.1
theorem Inv.tag {a : Addr} {φ : Heap → Prop} (I : Inv X pins σ H s) (ha : H a = none) (ha0 : X.s₀.heap.get? a = none) (hp : ∀ p ∈ X.pn ++ pins, p.1 ≠ a) (hL : a ≠ X.env.locals) (hc : ∀ x c, X.env.cells.lookup x = some c → c ≠ a)
   (h1 : φ s.heap) (h2 : ∃ o, s.heap.get? a = some o) (h3 : ∀ g1 g2 : Heap, φ g1 → (∀ o, g1.get? a = some o → g2.get? a = some o) → φ g2) : Inv X pins σ (upd H a (.ext φ)) s := by
 have old : ∀ b o, X.s₀.heap.get? b = some o → b ≠ a := fun b o q z => by rw [z, ha0] at q; cases q
 have had : ∀ b u, H b = some u → b ≠ a := fun b u q z => by rw [z, ha] at q; cases q
 refine ⟨I.ok, I.os, I.bare, ⟨I.base.keep, I.base.slot, fun b o q n hb => by rw [upd_ne (old b o q)]; exact I.base.free b o q n hb, I.base.there, fun b xs q => ?_, fun b o u q => ?_, fun b ps q => ?_⟩, I.loc, I.cell, by rw [upd_ne (Ne.symm hL)]; exact I.free,
   fun x c e => by rw [upd_ne (hc x c e)]; exact I.freeC x c e, fun p hpp => ?_, fun b u q => ?_, I.len⟩
 · have e := I.base.tups b xs q; rw [upd_ne (had b _ e)]; exact e
 · have e := I.base.frzs b o u q; rw [upd_ne (had b _ e)]; exact e
 · obtain ⟨more, e⟩ := I.base.tbls b ps q; exact ⟨more, by rw [upd_ne (had b _ e)]; exact e⟩
 · obtain ⟨e, n, ne, nf, d⟩ := I.pin p hpp
   exact ⟨e, by rw [upd_ne (hp p hpp)]; exact n, ne, nf, d⟩
 · by_cases hb : b = a
   · subst hb
     rw [upd_same] at q
     cases q
     exact ⟨h1, h2, h3⟩
   · rw [upd_ne hb] at q
     exact (I.hok b u q).stay (fun c v _ r => r) (fun c r => by rw [upd_ne (had c _ r)]; exact r) fun c xs r => by rw [upd_ne (had c _ r)]; exact r
end
end L2
namespace L2
open PySem PySem.Spec PyProof.Rows
local macro_rules | `(tactic| walk_at "xc") => `(tactic| (repeat any_goals (first | wp_step | assumption)))
theorem xc_match {M : Model} {A : Around} {E : Value → Shared → Prop} {h : Heap} {g : Array GenState} {d : Drawn} {t : Nat} {os : OsState} {a C P : Addr} {o : Obj} {K : PySem.W.Frag} {Q : Bool → Shared → Prop}
   (X : K.In h) (hx : h.get? a = some o) (hc : o.cls = .ref C) (up : PySem.W.subIn K (.ref C) (.ref P) = some true) (pb : PySem.W.subIn K (.ref P) (.type "BaseException") = some true) (hP : PySem.W.excIn K P bmVE "ValueError.__new__" = true)
   (hq : Q true ⟨h, g, d, t, os⟩) : wpAny M A (excMatches (.ref a) (.ref P)) Q E ⟨h, g, d, t, os⟩ := by
 obtain ⟨bm, N, nm, qn, bs, hd, sn, sub, ab, col, dd, k0, k1, k2, k3, k5, mN, hC, _⟩ := exc_of X hP
 have f1 := tc_notTuple
 have f2 := PySem.W.looks_subIn (M := M) X pb
 have f3 := PySem.W.looks_subIn (M := M) X up
 obtain ⟨oc, od, dt, sl⟩ := o
 have hc' : oc = .ref C := hc
 subst hc'
 unfold excMatches
 walk_at "xc"
 repeat (first | refine f2.at ?_ | refine f3.at ?_ | (with_reducible refine wpAny_loadPart_at hC ?_) | (with_reducible refine wpAny_loadPart_at hx ?_) | wp_step)
 exact hq
noncomputable def spM (K : PySem.W.Frag) (Ds : List Value) : Sp := fun vs H Q _ => ∃ a C φ bs, vs = [.ref a] ∧ H a = some (.ext φ) ∧ (∀ h, φ h → XAt a C h) ∧ XLook K C ∧ Ds.map (PySem.W.kitOne K (.ref C)) = (bs : List Bool).map some ∧
 ∀ l1 l2 r, H l1 = none → upd H l1 (.lst ((bs.take 4).map V.bl)) l2 = none → upd (upd H l1 (.lst ((bs.take 4).map V.bl))) l2 (.lst ((bs.drop 4).map V.bl)) r = none →
   Q (.ref r) (upd (upd (upd H l1 (.lst ((bs.take 4).map V.bl))) l2 (.lst ((bs.drop 4).map V.bl))) r (.lst (bs.map V.bl)))
structure DfM (P : Program) (w : World) (K : PySem.W.Frag) (mg : Str → Option Value) (base : Heap) (n : Nat) (x : Str) (Ds : List Value) : Prop where
 out : ∃ f fd, FnOkH P w K mg base n f fd ["e"] (spM K Ds) ∧ mg x = some (.ref f) ∧ PySem.W.keepIn K (.ref f) = true ∧ Binds K fd ["e"] []
theorem DfM.mono {P : Program} {w : World} {K : PySem.W.Frag} {mg : Str → Option Value} {base : Heap} {n m : Nat} {x : Str} {Ds : List Value} (D : DfM P w K mg base n x Ds) (h : n ≤ m) : DfM P w K mg base m x Ds := by
 obtain ⟨f, fd, F, a, b, c⟩ := D.out
 exact ⟨f, fd, ⟨F.len, fun A outer s H args us vs Q E hr => F.run A outer s H args us vs Q E ⟨by have := hr.dp; lia, by have := hr.un; lia⟩⟩, a, b, c⟩
section
variable {X : Cx} {pos : Pos}
theorem pe_callM {n : Nat} {x y : Str} {i : Nat} {p p1 : Pos} {Ds : List Value} (D : DfM X.prog X.w X.K X.mg X.base n x Ds) (hr : RoomH n X.A) (hN : X.N[i]? = some y) (hv : Vis X.env.scope y) (hg : Gl X x) (hx1 : (y == ("__debug__" : Str)) = false) (hx2 : (y == ("__classdict__" : Str)) = false) (hdb : (x == ("__debug__" : Str)) = false)
   (he : starEach [.Name y p1] X.env = (false, eval (.Name y p1) X.env) :: starEach [] X.env := by rfl) (hpl : (backTo pos (starEach [] X.env)).any (·.1) = false := by rfl) :
   PE X (.Call (.Name x p) [.Name y p1] [] pos) (fun σ H Q => ∃ v, σ[i]? = some (some v) ∧ spM X.K Ds [v] H Q fun _ _ _ => False) := by
 intro pins s σ H Q I ⟨v, ev, q⟩
 obtain ⟨f, fd, F, hm, hk, hb⟩ := D.out
 refine wpAny_Call_Name_kw (ld_glob I hg hm ?_ hdb)
 have pa := pa_cons (pe_var (X := X) (pos := p1) hN hv hx1 hx2) pa_nil he
 refine PySem.W.callWith_K (h₀ := X.base) I.ok.mod.kin hk (thn (pa pos pins s σ H (fun vs H1 => vs = [v] ∧ H1 = H) I ⟨v, ev, rfl, rfl⟩) fun us s1 ⟨vs, H1, I1, r, e1, e2⟩ => ⟨I1.kIn, ?_⟩) he hpl
 subst e1 e2
 have r2 : Vals ([v] ++ []) (us ++ []) := r.append .nil
 have hl : (us ++ []).length = ["e"].length := by rw [← r2.length]; rfl
 refine wpAny_call (codeAny_mono (F.run X.A X.stack s1 H1 ⟨us, []⟩ (us ++ []) ([v] ++ []) Q _ hr I1.env0 (hb s1 us I1.kIn hl) r2 q) fun r s' hq => ?_)
 cases r with
 | error e => exact hq.elim
 | ok fl =>
   cases fl with
   | ret u => exact I1.after hq
   | next => exact False.elim hq
   | brk => exact False.elim hq
   | cont => exact False.elim hq
end
end L2
namespace L2
open PySem PySem.Spec PyProof.Rows
section
variable {X : Cx} {pins : List (Addr × Obj)} {σ σ' : St} {H : Hp} {s : Shared}
theorem Inv.names {h' : Heap} {m' : Str → Option Value} (I : Inv X pins σ H s) (hs : Heap.SameBut X.env.locals s.heap h') (hn : h'.Ns X.env.locals m')
   (hl : ∀ (i : Nat) (x : Str) (v : V), X.N[i]? = some x → σ'[i]? = some (some v) → Vis X.env.scope x → ∃ u, RelV v u ∧ Look X.env h' m' x u) (len : σ'.length = X.N.length) : Inv X pins σ' H { s with heap := h' } := by
 have cne := I.cne
 have hL0 : X.s₀.heap.get? X.env.locals = none := Heap.get?_none_of_le I.ok.above
 have stay : ∀ b, b ≠ X.env.locals → h'.get? b = s.heap.get? b := fun b hb => hs.2 b hb
 have old : ∀ b o, X.s₀.heap.get? b = some o → b ≠ X.env.locals := fun b o q z => by rw [z, hL0] at q; cases q
 refine ⟨I.ok, I.os, I.bare, ⟨fun b o q n hf hb => (stay b (old b o q)).trans (I.base.keep b o q n hf hb), fun b o q n hf hb => ?_, I.base.free, fun b o q hb => ?_, I.base.tups, I.base.frzs, I.base.tbls⟩, ⟨m', hn, hl⟩, fun x c e => ?_, I.free, I.freeC, fun p hp => ?_, fun b u q => ?_, len⟩
 · obtain ⟨sl, e⟩ := I.base.slot b o q n hf hb
   exact ⟨sl, (stay b (old b o q)).trans e⟩
 · obtain ⟨o', e⟩ := I.base.there b o q hb
   exact ⟨o', (stay b (old b o q)).trans e⟩
 · obtain ⟨v, o, e1, e2⟩ := I.cell x c e
   exact ⟨v, o, (stay c (cne x c e)).trans e1, e2⟩
 · obtain ⟨e, n, ne, nf, d⟩ := I.pin p hp
   exact ⟨(stay p.1 ne).trans e, n, ne, nf, d⟩
 · refine (I.hok b u q).stay (fun c v hc r => (stay c ?_).trans r) (fun _ r => r) fun _ _ r => r
   rintro rfl
   rcases hc with rfl | hc
   · rw [I.free] at q; cases q
   · rw [I.free] at hc; cases hc
theorem cell_same {h h' : Heap} {L c : Addr} {v : Option Value} (hs : Heap.SameBut L h h') (hc : c ≠ L) (z : h.IsCell c v) : h'.IsCell c v := by
 obtain ⟨o, e1, e2⟩ := z
 exact ⟨o, (hs.2 c hc).trans e1, e2⟩
theorem name_goes {E : Value → Shared → Prop} {i : Nat} {x : Str} {pos : Pos} {v : V} {Q : Unit → Shared → Prop} (I : Inv X pins σ H s) (hN : X.N.Nodup) (hi : X.N[i]? = some x) (hx : X.env.scope.names.lookup x = some .local)
   (h : ∀ s', Inv X pins (σ.set i none) H s' → Q () s') : wpAny (model X.prog X.w) X.A (do bindName X.env x .none; unbindBehindTheSuite X.env x pos) Q E s := by
 refine wpAny_bind (wpAny_bindName (store_ok I hN hi (.inl hx) (v := .non) (u := .none) rfl (fun s1 I1 => ?_) (.inr hx)))
 have hiσ : i < σ.length := by rw [I.len]; exact (List.getElem?_eq_some_iff.mp hi).1
 obtain ⟨m, hn, hl⟩ := id I1.loc
 obtain ⟨u, ru, lk⟩ := hl i x .non hi (List.getElem?_set_self hiσ) (.inl hx)
 have hm : m x = some u := by
   rcases lk with ⟨_, e⟩ | ⟨z | z, _⟩
   · exact e
   · exact absurd (hx.symm.trans z) (by simp)
   · exact absurd (hx.symm.trans z) (by simp)
 have hcls : (X.env.scope.kind == .class || (X.env.scope.kind == .module && X.env.locals != X.env.globals)) = false := by rw [I.ok.kind]; rfl
 unfold unbindBehindTheSuite
 refine wpAny_onRaise ?_
 refine wpAny_unbindName_local hx hn hm hcls fun h2 w hn2 hs2 => h _ ?_
 refine (I1.names (σ' := σ.set i none) hs2 hn2 (fun j y v' e1 e2 e3 => ?_) (by rw [List.length_set]; exact I.len))
 by_cases hj : i = j
 · subst hj
   rw [List.getElem?_set_self hiσ] at e2
   cases e2
 · rw [List.getElem?_set_ne hj] at e2
   obtain ⟨u', r', lk'⟩ := hl j y v' e1 (by rw [List.getElem?_set_ne hj]; exact e2) e3
   refine ⟨u', r', ?_⟩
   have hne : y ≠ x := fun e => hj (nodup_ix hN hi (e ▸ e1))
   rcases lk' with ⟨k, e⟩ | ⟨k, c, e, z⟩
   · exact .inl ⟨k, (if_neg hne).trans e⟩
   · exact .inr ⟨k, c, e, cell_same hs2 (I1.cne y c e) z⟩
theorem RhoR.unset {K : PySem.W.Frag} {ρ : En} (h : RhoR K σ H ρ) (i : Nat) : RhoR K (σ.set i none) H (ρ.set i none) := by
 refine ⟨by rw [List.length_set, List.length_set]; exact h.1, fun j t e => ?_⟩
 by_cases hj : i = j
 · subst hj
   by_cases hl : i < ρ.length
   · rw [List.getElem?_set_self hl] at e; cases e
   · rw [List.getElem?_eq_none (by rw [List.length_set]; lia)] at e; cases e
 · rw [List.getElem?_set_ne hj] at e
   rw [List.getElem?_set_ne hj]
   exact h.2 j t e
end
end L2
namespace L2
open PySem PySem.Spec PyProof.Rows
section
variable {X : Cx} {body : List Stmt}
noncomputable def tTryM (tb : EK3 → TS3) (im ie : Nat) (names : List Str) (mk : Str → List Bool) : TS3 := fun D ρ M => tb (fun nm ρ' M' => nm ∈ names ∧ ∀ p, M' p = none → D.nx ((ρ'.set im (some (.adr p))).set ie none) (updM M' p (.lst ((mk nm).map T.bl)))) D ρ M
noncomputable abbrev Cx.tried (X : Cx) (pn : List (Addr × Obj)) (xe : Value → Shared → Prop) : Cx := { X with pn := pn, xe := xe }
noncomputable abbrev Cx.held (X : Cx) (a : Addr) : Cx := { X with A := X.A.mark (some (.ref a)), calm := false, xe := fun _ _ => False }
theorem Cx.Ok.tried {X : Cx} (ok : X.Ok) (pn : List (Addr × Obj)) (xe : Value → Shared → Prop) : (X.tried pn xe).Ok :=
 ⟨ok.mod, ok.kind, ok.glob, ok.blt, ok.above, ok.inj, ok.has, ok.cab, ok.hd, ok.frames, ok.stk, ok.exf, ok.bs, ok.bsz, ok.noex, ok.exfs, ok.funs, ok.frf⟩
theorem Cx.Ok.held {X : Cx} (ok : X.Ok) (a : Addr) : (X.held a).Ok :=
 ⟨ok.mod, ok.kind, ok.glob, ok.blt, ok.above, ok.inj, ok.has, ok.cab, fun z => Bool.noConfusion z, ok.frames, ok.stk, ok.exf, ok.bs, ok.bsz, ok.noex, ok.exfs, ok.funs, ok.frf⟩
theorem RelV.ref {a : Addr} : RelV (.ref a) (.ref a) := rfl
theorem reps_bools {K : PySem.W.Frag} {H : Hp} : ∀ bs : List Bool, Reps K H (bs.map V.bl) (bs.map T.bl)
 | [] => by unfold Reps; rfl
 | b :: bs => by
   unfold Reps
   exact ⟨_, _, rfl, rep_bl, reps_bools bs⟩
theorem set3 {α : Type} (l : List α) {i j : Nat} (h : i ≠ j) (x y z : α) : ((l.set j x).set i y).set j z = (l.set i y).set j z := by
 apply List.ext_getElem?
 intro k
 simp only [List.getElem?_set, List.length_set]
 by_cases h1 : j = k
 · simp [h1]
 · simp [h1]
theorem s_tryM {tb : EK3 → TS3} {im ie n : Nat} {names : List Str} {mk : Str → List Bool} {Ds : List Value} {tgt helper : Str} {P : Addr} {np tp hp ep cpos apos hpos pos : Pos}
   (hcalm : X.calm = true) (hex : X.ex = []) (hst : X.stack = X.env :: X.outer) (hfr : X.env.frame = some X.env.locals)
   (hb : ∀ (pn : List (Addr × Obj)) (xe : Value → Shared → Prop) (Ha : Hp) (E3 : EK3), Acc (X.tried pn xe) Ha E3 → HSsX (X.tried pn xe) Ha body (tb E3))
   (hP : X.mg "PlaitError" = some (.ref P)) (hPx : PySem.W.excIn X.K P bmVE "ValueError.__new__" = true) (pb : PySem.W.subIn X.K (.ref P) (.type "BaseException") = some true)
   (hn : ∀ nm ∈ names, ∃ C, XOne X.K X.mg P C nm ∧ Ds.map (PySem.W.kitOne X.K (.ref C)) = (mk nm).map some)
   (D : DfM X.prog X.w X.K X.mg X.base n helper Ds) (hr : Room n X.A) (hN : X.N.Nodup) (hne : im ≠ ie := by decide)
   (hi : X.N[im]? = some tgt := by rfl) (hxi : Loc X.env.scope tgt := by first | exact Or.inl rfl | exact Or.inr rfl) (hj : X.N[ie]? = some ("e" : Str) := by rfl) (hje : X.env.scope.names.lookup ("e" : Str) = some .local := by rfl)
   (hgP : Gl X "PlaitError" := by rfl) (hgh : Gl X helper := by rfl) (hdb : (helper == ("__debug__" : Str)) = false := by decide) (hfi : X.fn tgt = true ∨ X.env.scope.names.lookup tgt = some .local := by first | exact .inl rfl | exact .inr rfl)
   (he : ∀ (env : Env), starEach [.Name "e" ep] env = (false, eval (.Name "e" ep) env) :: starEach [] env := by intro _; rfl)
   (hsw : ∀ (env : Env), swapsWith (.Call (.Name helper hp) [.Name "e" ep] [] cpos) (some (.Name tgt tp)) apos.line env = pure false := by intro _; rfl) :
   HS X (.Try body [.ExceptHandler (some (.Name "PlaitError" np)) (some "e") [.Assign [.Name tgt tp] (.Call (.Name helper hp) [.Name "e" ep] [] cpos) apos] hpos] [] [] pos) (tTryM tb im ie names mk) := by
 intro D3 ρ M h pins s σ H D2 I ⟨hrr, hh, en⟩
 refine wpAny_Try_except ?_
 obtain ⟨xe0, hxe⟩ : ∃ xe0 : Value → Shared → Prop, xe0 = fun e s1 => wpAny (model X.prog X.w) X.A (noteFrame e X.env) (fun _ s2 => wpAny (model X.prog X.w) X.A (setFlight e none) (fun _ s3 => wpAny (model X.prog X.w) X.A (handleBy e X.env
     [.ExceptHandler (some (.Name "PlaitError" np)) (some "e") [.Assign [.Name tgt tp] (.Call (.Name helper hp) [.Name "e" ep] [] cpos) apos] hpos]) (SP X pins D2) X.xe s3) X.xe s2) X.xe s1 := ⟨_, rfl⟩
 have I' : Inv (X.tried (X.pn ++ pins) xe0) [] σ H s :=
   ⟨I.ok.tried _ _, I.os, I.bare, I.base, I.loc, I.cell, I.free, I.freeC, fun p hp => I.pin p (by simpa using hp), I.hok, I.len⟩
 refine wpAny_mono (hb (X.pn ++ pins) xe0 H _ ?_ D3 ρ M h [] s σ H D2 I' ⟨Kp.refl, hrr, hh, en⟩) (fun f s1 q => ?_) fun _ _ z => by rw [hxe] at z; exact z
 · intro pins' σ1 H1 s1 h0 a C nm ρ1 M1 J F old m k r1 h1 ⟨hnm, q⟩
   have J1 : Inv X pins σ1 H1 s1 := ⟨I.ok, J.os, J.bare, J.base, J.loc, J.cell, J.free, J.freeC, fun p hp => J.pin p (List.mem_append_left _ hp), J.hok, J.len⟩
   obtain ⟨C', x1, hmk⟩ := hn nm hnm
   have hCC : C' = C := by
     have := x1.mg.symm.trans m
     injection this with e
     injection e
   subst hCC
   obtain ⟨na, na0, oe, vs, a0, t1, t2, t3, t4, T5, oT, ts, t5, t6, t7, t8, t9, t10, t11⟩ := F
   have fA : H1 a = none ∧ X.s₀.heap.get? a = none ∧ ∀ p ∈ X.pn ++ pins, p.1 ≠ a := ⟨na, Classical.byContradiction fun z => old.start a z na0, fun p hp z => old.pins p (List.mem_append_left _ hp) (by rw [z]; exact na0)⟩
   have fT : H1 T5 = none ∧ X.s₀.heap.get? T5 = none ∧ ∀ p ∈ X.pn ++ pins, p.1 ≠ T5 := ⟨t7, Classical.byContradiction fun z => old.start T5 z t8, fun p hp z => old.pins p (List.mem_append_left _ hp) (by rw [z]; exact t8)⟩
   have hLa : a ≠ X.env.locals := fun z => old.loc (by show h0.get? X.env.locals = none; rw [← z]; exact na0)
   have hCa : ∀ x c, X.env.cells.lookup x = some c → c ≠ a := fun x c e z => old.cells x c e (by rw [z]; exact na0)
   have frames := I.ok.frames
   rw [hst] at frames
   have hl : s1.heap.FunFrames (PySem.W.hideAll s1.heap (a :: T5 :: frs X.stack)) (X.env :: X.outer) := by
     rw [← hst]
     exact funFrames_of J1.stack fun b hb => PySem.W.hideAll_none _ (List.mem_cons_of_mem _ (List.mem_cons_of_mem _ hb))
   have hfl : Heap.FlyingW (PySem.W.hideAll s1.heap (a :: T5 :: frs X.stack)) (X.env :: X.outer) a (.ref C') a0 s1.heap :=
     ⟨fun b o q => PySem.W.of_hideAll _ q, PySem.W.hideAll_none _ List.mem_cons_self, hl, oe, vs, T5, oT, ts, t1, ⟨t2, t4⟩, t3, t5, PySem.W.hideAll_none _ (List.mem_cons_of_mem _ List.mem_cons_self), t6, t9, t10, t11⟩
   have hB : ∀ b o, s1.heap.get? b = some o → b ∉ frs X.stack → b ≠ a → b ≠ T5 → (PySem.W.hideAll s1.heap (a :: T5 :: frs X.stack)).get? b = some o := fun b o q hf g1 g2 => PySem.W.hideAll_get _ q fun hm => by
     rcases List.mem_cons.mp hm with z | z
     · exact g1 z
     · rcases List.mem_cons.mp z with z | z
       · exact g2 z
       · exact hf z
   show xe0 (.ref a) s1
   rw [hxe]
   refine wpAny_looks_onW frames hfr hfl fun h4 hheld hsm4 => ?_
   refine wpAny_landsW (s := { s1 with heap := h4 }) hheld fun h5 hfl5 hsm5 => ?_
   have hsm : s1.heap.UpToSlots h5 := hsm4.trans hsm5
   have J5 : Inv (X.held a) pins σ1 H1 { s1 with heap := h5 } := by
     have := J1.flown hex hst hfr hB hfl5.1 hsm fA fT
     exact ⟨this.ok.held a, this.os, this.bare, this.base, this.loc, this.cell, this.free, this.freeC, this.pin, this.hok, this.len⟩
   obtain ⟨ob5, hob5, hcl5⟩ := hfl5.there
   refine wpAny_handleBy_cons (codeAny_handlers_test (ld_glob (X := X.held a) J5 hgP hP ?_)) (by intro q; cases q)
   refine xc_match J5.kIn hob5 hcl5 x1.up pb hPx ?_
   refine codeAny_handlers_suite_as ?_
   refine lands_againW (s := { s1 with heap := h5 }) hfl5 fun h6 hfl6 hsm6 => ?_
   have J6 : Inv (X.held a) pins σ1 H1 { s1 with heap := h6 } := by
     have := J1.flown hex hst hfr hB hfl6.1 (hsm.trans hsm6) fA fT
     exact ⟨this.ok.held a, this.os, this.bare, this.base, this.loc, this.cell, this.free, this.freeC, this.pin, this.hok, this.len⟩
   obtain ⟨ob6, hob6, hcl6⟩ := hfl6.there
   have J7 : Inv (X.held a) pins σ1 (upd H1 a (.ext (XAt a C'))) { s1 with heap := h6 } :=
     J6.tag (φ := XAt a C') na fA.2.1 fA.2.2 hLa hCa ⟨ob6, hob6, hcl6⟩ ⟨ob6, hob6⟩ fun g1 g2 ⟨o, e1, e2⟩ k => ⟨o, k o e1, e2⟩
   refine store_ok (X := X.held a) J7 hN hj (.inl hje) RelV.ref (fun s8 J8 => ?_) (.inr hje)
   have hie : ie < σ1.length := by rw [J1.len]; exact (List.getElem?_eq_some_iff.mp hj).1
   have hrh : RoomH n (X.held a).A := ⟨hr.dp, hr.un⟩
   have w := (pss_one (ps_set (X := X.held a) (i := im) (pos := apos) hN hi hxi (pe_callM (X := X.held a) (i := ie) (pos := cpos) (p := hp) (p1 := ep) D hrh hj (.inl hje) hgh (by decide) (by decide) hdb (he _) (by rfl)) (hsw _) hfi)) pins s8 (σ1.set ie (some (.ref a))) (upd H1 a (.ext (XAt a C')))
     { nx := fun σ' H' => ∃ p, σ' = (σ1.set ie (some (.ref a))).set im (some (.ref p)) ∧ Kp X.K H1 H' ∧ M1 p = none ∧ HR X.K H' (updM M1 p (.lst ((mk nm).map T.bl))), rt := fun _ _ => False } J8
     ⟨.ref a, List.getElem?_set_self hie, a, C', XAt a C', mk nm, rfl, upd_same, fun _ z => z, x1.lk, hmk, fun l1 l2 r e1 e2 e3 => ?_⟩
   · refine wpAny_mono w (fun f s9 q9 => ?_) fun _ _ z => z.elim
     cases f with
     | brk => obtain ⟨_, _, _, z⟩ := q9; exact False.elim z
     | cont => obtain ⟨_, _, _, z⟩ := q9; exact False.elim z
     | ret u => obtain ⟨_, _, _, _, _, z⟩ := q9; exact False.elim z
     | next =>
       obtain ⟨σ9, H9, J9, p, rfl, kp9, mp, hr9⟩ := q9
       have K9 : Inv X pins ((σ1.set ie (some (.ref a))).set im (some (.ref p))) H9 s9 := ⟨I.ok, J9.os, J9.bare, J9.base, J9.loc, J9.cell, J9.free, J9.freeC, J9.pin, J9.hok, J9.len⟩
       refine name_goes (v := .non) K9 hN hj hje fun s10 K10 => ⟨_, H9, K10, ?_⟩
       have es : ((σ1.set ie (some (V.ref a))).set im (some (V.ref p))).set ie none = ((σ1.set ie none).set im (some (V.ref p))).set ie none := by
         rw [set3 _ hne, set3 _ hne]
       rw [es]
       refine en.nx _ _ _ _ (k.trans kp9) ?_ hr9 (q p mp)
       have z := (((r1.kp kp9).unset ie).set im (rep_adr (a := p))).unset ie
       rw [set3 ρ1 hne] at z
       exact z
   · have c1 : H1 l1 = none := by
       by_cases z : l1 = a
       · rw [z, upd_same] at e1; cases e1
       · rwa [upd_ne z] at e1
     refine ⟨r, rfl, ?_, ?_, ?_⟩
     · exact (Kp.new na).trans ((Kp.new e1).trans ((Kp.new e2).trans (Kp.new e3)))
     · refine HR.free (h1.keep na |>.keep e1 |>.keep e2) e3
     · refine ((h1.keep na).keep e1).keep e2 |>.newL e3 (reps_bools _)
 · cases f with
   | next =>
     obtain ⟨σ', H', J, q⟩ := q
     exact wpAny_execs_nil ⟨σ', H', ⟨I.ok, J.os, J.bare, J.base, J.loc, J.cell, J.free, J.freeC, fun p hp => J.pin p (List.mem_append_left _ hp), J.hok, J.len⟩, q⟩
   | brk =>
     obtain ⟨σ', H', J, q⟩ := q
     exact ⟨σ', H', ⟨I.ok, J.os, J.bare, J.base, J.loc, J.cell, J.free, J.freeC, fun p hp => J.pin p (List.mem_append_left _ hp), J.hok, J.len⟩, q⟩
   | cont =>
     obtain ⟨σ', H', J, q⟩ := q
     exact ⟨σ', H', ⟨I.ok, J.os, J.bare, J.base, J.loc, J.cell, J.free, J.freeC, fun p hp => J.pin p (List.mem_append_left _ hp), J.hok, J.len⟩, q⟩
   | ret u =>
     obtain ⟨v, σ', H', J, r, q⟩ := q
     exact ⟨v, σ', H', ⟨I.ok, J.os, J.bare, J.base, J.loc, J.cell, J.free, J.freeC, fun p hp => J.pin p (List.mem_append_left _ hp), J.hok, J.len⟩, r, q⟩
end
end L2
namespace L2
open PySem PySem.Spec PyProof.Rows
noncomputable def xAll (K : PySem.W.Frag) (P : Addr) (cs : List (Str × Addr)) : Bool :=
 PySem.W.excIn K P bmVE "ValueError.__new__" && (PySem.W.subIn K (.ref P) (.type "BaseException") == some true) && cs.all fun c =>
   PySem.W.excIn K c.2 bmVE "ValueError.__new__" && (PySem.W.findIn K (.ref c.2) "__getattribute__" == some (some (.builtin "BaseException.__getattribute__"))) && (PySem.W.findIn K (.ref c.2) "__class__" == some (some (.builtin "object.__class__")))
     && (PySem.W.findIn K (.ref c.2) "__getattr__" == some none) && (PySem.W.subIn K (.ref c.2) (.type "object") == some true) && (PySem.W.subIn K (.ref c.2) (.type "BaseException") == some true) && (PySem.W.clsIn K c.2).isSome
     && (PySem.W.subIn K (.ref c.2) (.ref P) == some true) && (PySem.W.kitOne K (.ref c.2) (.type "ValueError") == some true) && cs.all fun d => PySem.W.kitOne K (.ref c.2) (.ref d.2) == some (c.1 == d.1)
structure Xs (K : PySem.W.Frag) (mg : Str → Option Value) (P : Addr) (cs : List (Str × Addr)) : Prop where
 pe : mg "PlaitError" = some (.ref P)
 mg : ∀ c ∈ cs, mg c.1 = some (.ref c.2)
 all : xAll K P cs = true
section
variable {K : PySem.W.Frag} {mg : Str → Option Value} {P : Addr} {cs : List (Str × Addr)}
theorem Xs.one (Z : Xs K mg P cs) {c : Str × Addr} (hc : c ∈ cs) : XOne K mg P c.2 c.1 ∧ ∀ d ∈ cs, PySem.W.kitOne K (.ref c.2) (.ref d.2) = some (c.1 == d.1) := by
 have h := Z.all
 unfold xAll at h
 simp only [Bool.and_eq_true, List.all_eq_true, beq_iff_eq] at h
 obtain ⟨⟨h1, h2⟩, h3⟩ := h
 obtain ⟨⟨⟨⟨⟨⟨⟨⟨⟨a1, a2⟩, a3⟩, a4⟩, a5⟩, a6⟩, a7⟩, a8⟩, a9⟩, a10⟩ := h3 c hc
 exact ⟨⟨Z.mg c hc, a1, ⟨a2, a3, a4, a5, a6, a7⟩, a8, a9⟩, fun d hd => a10 d hd⟩
theorem Xs.p (Z : Xs K mg P cs) : PySem.W.excIn K P bmVE "ValueError.__new__" = true ∧ PySem.W.subIn K (.ref P) (.type "BaseException") = some true := by
 have h := Z.all
 unfold xAll at h
 simp only [Bool.and_eq_true, beq_iff_eq] at h
 exact h.1
theorem Xs.cl (Z : Xs K mg P cs) {nm : Str} (h : nm ∈ cs.map (·.1)) : XCl K mg nm := by
 obtain ⟨c, hc, rfl⟩ := List.mem_map.mp h
 obtain ⟨o, _⟩ := Z.one hc
 exact ⟨c.2, o.mg, o.ok⟩
noncomputable def xDs (cs : List (Str × Addr)) : List Value := cs.map (fun c => .ref c.2) ++ [.type "ValueError"]
noncomputable def xMk (ns : List Str) (nm : Str) : List Bool := ns.map (fun n => nm == n) ++ [true]
theorem Xs.names (Z : Xs K mg P cs) {ns : List Str} (hns : cs.map (·.1) = ns) : ∀ nm ∈ ns, ∃ C, XOne K mg P C nm ∧ (xDs cs).map (PySem.W.kitOne K (.ref C)) = (xMk ns nm).map some := by
 subst hns
 intro nm h
 obtain ⟨c, hc, rfl⟩ := List.mem_map.mp h
 obtain ⟨o, k⟩ := Z.one hc
 refine ⟨c.2, o, ?_⟩
 unfold xDs xMk
 rw [List.map_append, List.map_append, List.map_map, List.map_map, List.map_map]
 congr 1
 · exact List.map_congr_left fun d hd => k d hd
 · show [PySem.W.kitOne K (.ref c.2) (.type "ValueError")] = [some true]
   rw [o.ve]
end
section
variable {X : Cx}
noncomputable def tMarks (K : PySem.W.Frag) (D1 D2 D3 D4 D5 D6 D7 : Value) : TS :=
 tSeq (tAsg (tLst (tCons (tIsX 0 D1 K) (tCons (tIsX 0 D2 K) (tCons (tIsX 0 D3 K) (tCons (tIsX 0 D4 K) tNil))))) (gName 1))
   (tRet (tOp rCat (tVar 1) (tLst (tCons (tIsX 0 D5 K) (tCons (tIsX 0 D6 K) (tCons (tIsX 0 D7 K) tNil))))))
theorem marks_read {K : PySem.W.Frag} {x y : Str} {D1 D2 D3 D4 D5 D6 D7 : Value} {vs : List V} {H : Hp} {Q : VK} {E : XK} (h : spM K [D1, D2, D3, D4, D5, D6, D7] vs H Q E) :
   tMarks K D1 D2 D3 D4 D5 D6 D7 { nx := fun _ H' => Q .non H', rt := Q } (start [x, y] vs) H := by
 obtain ⟨a, C, φ, bs, rfl, e, hφ, L, hk, q⟩ := h
 obtain ⟨b1, b2, b3, b4, b5, b6, b7, rfl⟩ : ∃ b1 b2 b3 b4 b5 b6 b7 : Bool, bs = [b1, b2, b3, b4, b5, b6, b7] := by
   have hl := congrArg List.length hk
   simp only [List.length_map, List.length_cons, List.length_nil] at hl
   match bs, hl with
   | [b1, b2, b3, b4, b5, b6, b7], _ => exact ⟨_, _, _, _, _, _, _, rfl⟩
 simp only [List.map_cons, List.map_nil, List.cons.injEq, and_true] at hk
 obtain ⟨k1, k2, k3, k4, k5, k6, k7⟩ := hk
 have ne : ∀ (H' : Hp) (l : Addr) (o : HO), (∃ ψ, H' a = some (.ext ψ) ∧ ∀ h, ψ h → XAt a C h) → H' l = none → ∃ ψ, upd H' l o a = some (.ext ψ) ∧ ∀ h, ψ h → XAt a C h := fun H' l o ⟨ψ, e1, e2⟩ hl =>
   ⟨ψ, by rw [upd_ne (fun z => by rw [z, hl] at e1; cases e1)]; exact e1, e2⟩
 have i0 : ∃ ψ, H a = some (.ext ψ) ∧ ∀ h, ψ h → XAt a C h := ⟨φ, e, hφ⟩
 have z7 : (7 : Nat) ≤ sizeLine := by decide
 refine ⟨a, C, b1, rfl, i0, L, k1, a, C, b2, rfl, i0, L, k2, a, C, b3, rfl, i0, L, k3, a, C, b4, rfl, i0, L, k4, Nat.le_trans (show 4 ≤ 7 by lia) z7, fun l1 h1 => ?_⟩
 have i1 := ne H l1 (.lst [.bl b1, .bl b2, .bl b3, .bl b4]) i0 h1
 refine ⟨.ref l1, rfl, a, C, b5, rfl, i1, L, k5, a, C, b6, rfl, i1, L, k6, a, C, b7, rfl, i1, L, k7, Nat.le_trans (show 3 ≤ 7 by lia) z7, fun l2 h2 => ⟨l1, l2, [.bl b1, .bl b2, .bl b3, .bl b4], [.bl b5, .bl b6, .bl b7], rfl, rfl, ?_, upd_same, z7, fun r h3 => q l1 l2 r h1 h2 h3⟩⟩
 rw [upd_ne (fun z => by rw [← z, upd_same] at h2; cases h2)]
 exact upd_same
end
end L2
namespace L2
open PySem PySem.Spec PyProof.Rows
theorem sub_over {M : MH} {p p' : Addr} {x o : MO} (hp : M p = none) : Sub (updM M p' o) (updM (updM M p x) p' o) := fun a u e => by
 by_cases h : a = p'
 · subst h
   rw [updM_same] at e ⊢
   exact e
 · rw [updM_ne h] at e ⊢
   rw [updM_ne (fun z => by rw [z, hp] at e; cases e)]
   exact e
end L2
namespace L2
open PySem PySem.Spec PyProof.Rows
section
variable {X : Cx}
theorem rep2 {K : PySem.W.Frag} {H : Hp} {vs : List V} {x y : T} (r : Reps K H vs [x, y]) : ∃ v w, vs = [v, w] ∧ Rep K H v x ∧ Rep K H w y := by
 unfold Reps at r
 obtain ⟨v, w, rfl, h, r⟩ := r
 obtain ⟨v2, rfl, h2⟩ := reps1 r
 exact ⟨_, _, rfl, h, h2⟩
noncomputable def rMax3 : List T → MH → VK3 → Prop := fun xs M Q => match xs with
 | [.int i, .int j] => Q (.int (if j > i then j else i)) M
 | _ => False
theorem call3_max (hc : X.calm = true) : CallR3 X (.builtin "max") rMax3 := by
 intro pins s σ H vs us Q2 I r h
 obtain ⟨xs, M, Q, rr, hh, q, en⟩ := h
 unfold rMax3 at q
 split at q
 · rename_i i j
   obtain ⟨v, w, rfl, r1, r2⟩ := rep2 rr
   obtain rfl := inv_int r1
   obtain rfl := inv_int r2
   exact call_max2 hc pins s σ H _ us Q2 I r ⟨_, _, rfl, en _ _ M H Kp.refl hh rep_int q⟩
 · exact q.elim
end
end L2
namespace L2
open PySem PySem.Spec PyProof.Rows
noncomputable def tAugI3 (i : Nat) (te : TE3) (f : Int → Int → Int) : TS3 := fun D ρ M => match ρ[i]? with
 | some (some (.int a)) => te ρ M fun y M1 => match y with
   | .int b => D.nx (ρ.set i (some (.int (f a b)))) M1
   | _ => False
 | _ => False
theorem s_augI {X : Cx} {i : Nat} {x : Str} {e : Expr} {te : TE3} {op : Operator} {f : Int → Int → Int} {pos pos' : Pos} (ho : PIp X op (ipI f)) (he : HE X e te) (hN : X.N.Nodup) (hi : X.N[i]? = some x := by rfl) (hx : Loc X.env.scope x := by first | exact Or.inl rfl | exact Or.inr rfl)
   (hf : X.fn x = true ∨ X.env.scope.names.lookup x = some .local := by first | exact .inl rfl | exact .inr rfl | assumption) : HS X (.AugAssign (.Name x pos') op e pos) (tAugI3 i te f) := fun D ρ M h =>
 (ps_aug hN hi hx (he.d (ρ := ρ)) ho hf).imp fun D2 σ H ⟨hr, hh, en⟩ => by
   unfold tAugI3 at h
   split at h
   · rename_i a e
     obtain ⟨v, ev, rv⟩ := hr.2 i _ e
     obtain rfl := inv_int rv
     refine ⟨_, ev, M, _, h, hr, hh, fun t v M1 H1 k1 h1 r1 q1 => ?_⟩
     dsimp only at q1
     split at q1
     · obtain rfl := inv_int r1
       exact ⟨a, _, rfl, rfl, en.nx _ M1 _ H1 k1 ((hr.kp k1).set i rep_int) h1 q1⟩
     · exact q1.elim
   · exact h.elim
end L2
namespace L2
open PySem PySem.Spec PyProof.Rows
section
variable {X : Cx} {d : Addr} {ks : List (Str × Addr)}
end
section
variable {X : Cx} {d : Addr} {ks : List (Str × Addr)}
end
end L2
namespace L2
open PySem PySem.Spec PyProof.Rows
section
variable {X : Cx}
end
end L2
namespace L2
open PySem PySem.Spec PyProof.Rows
section
variable {X : Cx} {Ha : Hp} {body : List Stmt} {pos : Pos}
end
end L2
namespace L2
open PySem PySem.Spec PyProof.Rows
open AutoSeq1 (wpAny_loadPart')
section
variable {prog : Program} {w : World} {A : Around} {E : Value → Shared → Prop} {s : Shared}
end
section
variable {X : Cx}
end
theorem starEach_tup {es rest : List Expr} {x1} {pos : Pos} {env : Env} : starEach (.Tuple es x1 pos :: rest) env = (false, eval (.Tuple es x1 pos) env) :: starEach rest env := rfl
theorem a_consT {X : Cx} {es1 es : List Expr} {x1} {pos : Pos} {ta : TE3} {t : TA3} (ha : HE X (.Tuple es1 x1 pos) ta) (hr : HA X es t) : HA X (.Tuple es1 x1 pos :: es) (tCons3 ta t) := a_cons ha hr (hs := starEach_tup)
end L2
namespace L2
open PySem PySem.Spec PyProof.Rows
section
variable {prog : Program} {w : World} {A : Around} {E : Value → Shared → Prop} {s : Shared}
theorem collect_tup {l : Addr} {vs : List Value} {Q : List Value → Shared → Prop} (hl : s.heap.IsTuple l vs.toArray)
   (h : Q vs { s with heap := (s.heap.push (seqObj "list" #[] 0)).update s.heap.objs.size (Obj.mapSeq (· ++ vs.toArray)) }) (hsz : vs.length ≤ sizeLine) :
   wpAny (model prog w) A (collect (.ref l)) Q E s := by
 obtain ⟨o, ho, hc, n, hd⟩ := id hl
 unfold collect
 refine wpAny_bind (wpAny_runValue (codeAny_builtin entry_proto_collect' ?_))
 show wpAny _ _ (do again (.builtin "list.__iadd__" ⟨[← newList [], .ref l], []⟩)) _ _ s
 refine wpAny_bind (wpAny_newList (wpAny_pure ⟨Code.quiet_builtin _ (by decide +kernel), codeAny_builtin entry_list_iadd' ?_⟩))
 show wpAny _ _ (Builtin.List.listExtendWith (.ref s.heap.objs.size) (.ref l) (.ref s.heap.objs.size)) _ _ { s with heap := s.heap.push (seqObj "list" #[] 0) }
 unfold Builtin.List.listExtendWith
 have ho' : (s.heap.push (seqObj "list" #[] 0)).get? l = some o := Heap.get?_push_of_some _ ho
 refine wpAny_bind (wpAny_typeOf (T := "tuple") ⟨o, ho', hc⟩ ?_)
 have ht : (Value.type "tuple" == Value.type "tuple") = true := by rfl
 rw [if_pos (by rw [ht]; simp)]
 refine wpAny_bind (listItems_at ho' hd ?_)
 refine wpAny_bind (listItems_at (xs := #[]) (n := 0) (Heap.get?_push_size _ rfl) rfl ?_)
 rw [if_neg (by simp)]
 refine wpAny_bind (listUpdate_at (xs := #[]) (n := 0) (Heap.get?_push_size _ rfl) rfl ?_ (Nat.zero_le _) (by show (#[] ++ vs.toArray).size ≤ sizeLine + 1; simp only [Array.size_append, List.size_toArray, List.length_nil]; lia))
 refine wpAny_pure ?_
 show wpAny (model prog w) A (do
     let o ← load s.heap.objs.size
     match o.data with
     | .seq xs _ => pure xs.toList
     | _ => unsupported "internal:collect") Q E { s with heap := (s.heap.push (seqObj "list" #[] 0)).update s.heap.objs.size (Obj.mapSeq (· ++ vs.toArray)) }
 refine wpAny_bind (wpAny_load (get?_update_seq (Heap.get?_push_size _ rfl) _) ?_)
 show wpAny _ _ (pure ((#[] : Array Value) ++ vs.toArray).toList) Q E _
 rw [show ((#[] : Array Value) ++ vs.toArray).toList = vs by simp]
 exact wpAny_pure h
theorem sorted_of {l : Addr} {vs : List Value} {ns : List Int} {Q : Value → Shared → Prop} (hI : IntsAre vs ns) (h64 : vs.length < 64)
   (hcol : ∀ (Q' : List Value → Shared → Prop), Q' vs { s with heap := (s.heap.push (seqObj "list" #[] 0)).update s.heap.objs.size (Obj.mapSeq (· ++ vs.toArray)) } → wpAny (model prog w) A.in1 (collect (.ref l)) Q' E s)
   (h : ∀ (out : Array Value) (ns' : List Int), IntsAre out.toList ns' → ns'.Perm ns → ns'.Pairwise (· ≤ ·) → Q (.ref (s.heap.objs.size + 1)) { s with heap := sortedAll s.heap vs out }) :
   wpAny (model prog w) A (call (.builtin "sorted") [.ref l]) Q E s := by
 refine Calls.call_function_entry kind_sorted plain_sorted entry_sorted (args_sorted1 _) ?_
 unfold Builtin.«sorted»
 refine wpAny_bind (m := checkCount "sorted" 1 1 _) (wpAny_pure ?_)
 refine wpAny_bind (hcol _ ?_)
 refine wpAny_bind (wpAny_newList ?_)
 have hsz : ((s.heap.push (seqObj "list" #[] 0)).update s.heap.objs.size (Obj.mapSeq (· ++ vs.toArray))).objs.size = s.heap.objs.size + 1 := by
   rw [Heap.size_update, size_push']
 have hoL : (((s.heap.push (seqObj "list" #[] 0)).update s.heap.objs.size (Obj.mapSeq (· ++ vs.toArray))).push (seqObj "list" vs.toArray 0)).get? (s.heap.objs.size + 1) = some (seqObj "list" vs.toArray 0) := by
   rw [← hsz]; exact Heap.get?_push_size _ rfl
 show wpAny _ _ _ _ _ { s with heap := ((s.heap.push (seqObj "list" #[] 0)).update s.heap.objs.size (Obj.mapSeq (· ++ vs.toArray))).push (seqObj "list" vs.toArray 0) }
 rw [hsz]
 refine wpAny_bind (wpAny_holding (wpAny_call_entry slot_list_sort ⟨_, hoL, rfl⟩ entry_list_sort (list_sort_tree hoL hI h64 fun out ns' a1 a2 a3 => ⟨_, rfl, ?_⟩) (args_list_sort _)))
 exact wpAny_pure ⟨_, rfl, h out ns' a1 a2 a3⟩
end
section
variable {X : Cx}
theorem call_sorted_of : CallR X (.builtin "sorted") (fun xs H Q => ∃ p ns, xs = [.ref p] ∧ (SqL X.K H p (ns.map V.int) ∨ SqT X.K H p (ns.map V.int)) ∧ ns.length < 64 ∧ ∀ ms : List Int, ms.Perm ns → ms.Pairwise (· ≤ ·) → ∀ l, H l = none → Q (.ref l) (upd H l (.lst (ms.map V.int)))) := by
 intro pins s σ H xs us Q I r h
 obtain ⟨p, ns, rfl, hq, h64, q⟩ := h
 obtain ⟨u, rfl, rx⟩ := vals1 r
 cases rx
 have fin : ∀ (its : List Value), its.length = ns.length → ∀ (out : Array Value) (ns' : List Int), IntsAre out.toList ns' → ns'.Perm ns → ns'.Pairwise (· ≤ ·) → EP X pins σ Q (.ref (s.heap.objs.size + 1)) { s with heap := sortedAll s.heap its out } := by
   intro its hl out ns' h1 h2 h3
   obtain ⟨e, he⟩ := sortedAll_at s.heap its out
   have hv := vals_ints h1
   have hn : ns'.length ≤ sizeLine := by rw [h2.length_eq, sizeLine_eq]; lia
   refine ⟨.ref (s.heap.objs.size + 1), _, I.laid (t' := s.toks) (fun b o hb => sortedAll_old hb) (Nat.le_succ _) (show ObjOk X.prog X.w _ (sortedAll s.heap its out) _ (.lst (ns'.map V.int)) from ⟨by rw [List.length_map]; exact hn, out.toList, e, hv, by rw [Array.toArray_toList]; exact he⟩), rfl, q ns' h2 h3 _ (I.hok.fresh (Nat.le_succ _))⟩
 rcases hq with hq | hq
 · obtain ⟨its, r', pl, hz⟩ := I.list hq
   have hlen : its.length = ns.length := by have := r'.length; rw [List.length_map] at this; lia
   have hl := pl.isList
   exact sorted_of (vs := its) (intsAre_of r') (by lia) (fun Q' q' => collect_list (by simpa using hl) q' (by rw [sizeLine_eq]; lia)) (fin its hlen)
 · obtain ⟨its, r', pl, hz⟩ := I.tuple hq
   have hlen : its.length = ns.length := by have := r'.length; rw [List.length_map] at this; lia
   have hl : s.heap.IsTuple p its.toArray := pl
   exact sorted_of (vs := its) (intsAre_of r') (by lia) (fun Q' q' => collect_tup hl q' (by rw [sizeLine_eq]; lia)) (fin its hlen)
noncomputable def rSorted3 : List T → MH → VK3 → Prop := fun xs M Q => match xs with
 | [.tup ts] => ∃ ns : List Int, ts = ns.map .int ∧ ns.length < 64 ∧ ∀ ms : List Int, ms.Perm ns → ms.Pairwise (· ≤ ·) → ∀ r, M r = none → Q (.adr r) (updM M r (.lst (ms.map .int)))
 | [.adr p] => (match M p with | some (.lst ts) => ∃ ns : List Int, ts = ns.map .int ∧ ns.length < 64 ∧ ∀ ms : List Int, ms.Perm ns → ms.Pairwise (· ≤ ·) → ∀ r, M r = none → Q (.adr r) (updM M r (.lst (ms.map .int))) | _ => False)
 | _ => False
theorem reps_ints {K : PySem.W.Frag} {H : Hp} : ∀ {ns : List Int} {vs : List V}, Reps K H vs (ns.map .int) → vs = ns.map V.int
 | [], _, r => by unfold Reps at r; exact r
 | n :: ns, _, r => by
   rw [List.map_cons] at r
   unfold Reps at r
   obtain ⟨v, w, rfl, r1, r2⟩ := r
   obtain rfl := inv_int r1
   rw [reps_ints r2]
   rfl
theorem ints_reps {K : PySem.W.Frag} {H : Hp} : ∀ ns : List Int, Reps K H (ns.map V.int) (ns.map .int)
 | [] => by rw [List.map_nil, List.map_nil]; unfold Reps; rfl
 | n :: ns => by
   rw [List.map_cons, List.map_cons]
   unfold Reps
   exact ⟨_, _, rfl, rep_int, ints_reps ns⟩
theorem call3_sorted : CallR3 X (.builtin "sorted") rSorted3 := by
 intro pins s σ H vs us Q2 I r h
 obtain ⟨xs, M, Q, rr, hh, q, en⟩ := h
 unfold rSorted3 at q
 split at q
 · obtain ⟨v, rfl, r1⟩ := reps1 rr
   obtain ⟨p, ys, rfl, g1, g2⟩ := inv_tup r1
   obtain ⟨ns, rfl, h64, q⟩ := q
   obtain rfl := reps_ints g2
   exact call_sorted_of pins s σ H _ us Q2 I r ⟨p, ns, rfl, .inr g1, h64, fun ms h1 h2 l hl => en _ _ _ _ (Kp.new hl) (hh.newL hl (ints_reps ms)) rep_adr (q ms h1 h2 l (hh.free hl))⟩
 · obtain ⟨v, rfl, r1⟩ := reps1 rr
   obtain rfl := inv_adr r1
   split at q
   · rename_i ts e0
     obtain ⟨ns, rfl, h64, q⟩ := q
     obtain ⟨ys, g1, g2⟩ := hh _ _ e0
     obtain rfl := reps_ints g2
     exact call_sorted_of pins s σ H _ us Q2 I r ⟨_, ns, rfl, .inl (SqL.of g1), h64, fun ms h1 h2 l hl => en _ _ _ _ (Kp.new hl) (hh.newL hl (ints_reps ms)) rep_adr (q ms h1 h2 l (hh.free hl))⟩
   · exact q.elim
 · exact q.elim
end
theorem len_1 {α : Type} {us : List α} {P : List α → Prop} (hl : us.length = 1) (h : ∀ a : α, P [a]) : P us := by
 obtain ⟨a, rfl⟩ := List.length_eq_one_iff.mp hl
 exact h a
theorem len_2 {α : Type} {us : List α} {P : List α → Prop} (hl : us.length = 2) (h : ∀ a b : α, P [a, b]) : P us := by
 obtain ⟨a, r, rfl⟩ := List.exists_cons_of_length_eq_add_one hl
 exact len_1 (P := fun r => P (a :: r)) (Nat.succ.inj hl) (h a)
theorem len_3 {α : Type} {us : List α} {P : List α → Prop} (hl : us.length = 3) (h : ∀ a b c : α, P [a, b, c]) : P us := by
 obtain ⟨a, r, rfl⟩ := List.exists_cons_of_length_eq_add_one hl
 exact len_2 (P := fun r => P (a :: r)) (Nat.succ.inj hl) (h a)
theorem len_4 {α : Type} {us : List α} {P : List α → Prop} (hl : us.length = 4) (h : ∀ a b c d : α, P [a, b, c, d]) : P us := by
 obtain ⟨a, r, rfl⟩ := List.exists_cons_of_length_eq_add_one hl
 exact len_3 (P := fun r => P (a :: r)) (Nat.succ.inj hl) (h a)
end L2
namespace L2
open PySem PySem.Spec PyProof.Rows
section
variable {X : Cx}
noncomputable def rCount3 : RM3 := fun x xs M Q => match x, xs with
 | .adr p, [.tup us] => (match M p with | some (.lst ts) => ∃ (R : List (List Int)) (r : List Int), ts = R.map (fun r => T.tup (r.map .int)) ∧ us = r.map .int ∧ Q (.int ((R.count r : Nat) : Int)) M | _ => False)
 | _, _ => False
theorem mt3_count (hu : X.A.units + 64 < cLine) : MtR3 X "list.count" rCount3 := by
 classical
 intro pins s σ H v vs u us Q2 I rv rvs h
 obtain ⟨x, xs, M, Q, r1, r2, hh, q, en⟩ := h
 unfold rCount3 at q
 split at q
 · rename_i p us'
   split at q
   · rename_i ts e0
     obtain ⟨R, r, rfl, rfl, q⟩ := q
     obtain ⟨ys, g1, g2⟩ := hh _ _ e0
     obtain rfl := inv_adr r1
     obtain ⟨w, rfl, rw'⟩ := reps1 r2
     cases rv
     obtain ⟨w', rfl, rvw⟩ := vals1 rvs
     obtain ⟨its, r', pl, hz⟩ := I.list (SqL.of g1)
     obtain ⟨o, n, eo, ec, edd, ed⟩ := id pl
     obtain ⟨cls, dd, data, sl⟩ := o
     simp only at ec edd ed
     subst ec edd ed
     have pu : ∀ r : List Int, pureT (T.tup (r.map T.int)) = true := fun r => by rw [pureT_tup, pureTs_ints]
     have du : ∀ r : List Int, depT (T.tup (r.map T.int)) ≤ 30 := fun r => by rw [depT_tup, depTs_ints]; decide
     let e : Value → Bool := fun y => decide (∃ v, Rep X.K H v (T.tup (r.map .int)) ∧ RelV v y)
     have own : ∀ (a : List Int) (v : V) (y : Value), Rep X.K H v (T.tup (a.map .int)) → RelV v y → SeqAt.EqAt X.A.in1 s y w' (decide (a = r)) ∧ e y = decide (a = r) := by
       intro a v y q1 q2
       have h1 := (eqAt_T I 30 X.A.in1 (T.tup (a.map T.int)) (T.tup (r.map T.int)) v w y w' (du a) (by show X.A.units + 1 + 30 + 1 < cLine; lia) (pu a) (pu r) q1 rw' q2 rvw).1
       have h2 : eqT (T.tup (a.map T.int)) (T.tup (r.map T.int)) = decide (a = r) := by rw [eqT_tup, eqTs_ints]
       rw [h2] at h1
       refine ⟨h1, ?_⟩
       by_cases c : a = r
       · subst c
         rw [decide_eq_true rfl]
         exact decide_eq_true ⟨v, q1, q2⟩
       · rw [decide_eq_false c]
         refine decide_eq_false ?_
         rintro ⟨v', q3, q4⟩
         obtain rfl := RelV.inj q2 q4
         have := rep_det I _ _ _ (pu a) (pu r) q1 q3
         rw [h2] at this
         exact c (of_decide_eq_true this)
     have all : ∀ (R : List (List Int)) (ys : List V) (its : List Value), Reps X.K H ys (R.map fun r => T.tup (r.map .int)) → Vals ys its → (∀ y, y ∈ its → SeqAt.EqAt X.A.in1 s y w' (e y)) ∧ its.countP e = R.count r := by
       intro R
       induction R with
       | nil =>
         intro ys its a b
         rw [List.map_nil] at a
         unfold Reps at a
         subst a
         cases b
         exact ⟨fun y hy => (by cases hy), rfl⟩
       | cons a R ih =>
         intro ys its a1 b
         rw [List.map_cons] at a1
         unfold Reps at a1
         obtain ⟨v, vs, rfl, q1, q2⟩ := a1
         cases b with
         | cons c d =>
           obtain ⟨i1, i2⟩ := ih _ _ q2 d
           obtain ⟨o1, o2⟩ := own a v _ q1 c
           refine ⟨fun y hy => ?_, ?_⟩
           · rcases List.mem_cons.mp hy with rfl | hy
             · rw [o2]; exact o1
             · exact i1 y hy
           · rw [List.countP_cons, List.count_cons, i2, o2]
             by_cases c : a = r
             · simp [c]
             · simp [c]
     obtain ⟨k1, k2⟩ := all R ys its g2 r'
     refine call_meets PySem.F.slot_list_count ⟨_, eo, rfl⟩ PySem.F.entry_list_count (PySem.F.args_list_count_2 _ _) (SeqAt.list_countAt p its.toArray n none sl w' e) ⟨eo, fun y hy => k1 y (by simpa using hy), ?_⟩
     rw [show its.toArray.toList = its from rfl, k2]
     exact ⟨.int (R.count r : Nat), H, I.tok _, ⟨_, rfl⟩, en _ _ M H Kp.refl hh rep_int q⟩
   · exact q.elim
 · exact q.elim
theorem h_m_countU {o e : Expr} {es : List Expr} {to : TE3} {t : TA3} {apos cpos : Pos} (hu : X.A.units + 64 < cLine) (ho : HE X o to) (ha : HA X (e :: es) t)
   (hbase : attributeBase o "count" X.env (eval o X.env) = eval o X.env := by rfl)
   (hfew : ((backTo cpos (starEach (e :: es) X.env)).all (fun x => !x.1) && (backToKw cpos (keywordEach [] X.env)).all (fun x => x.1.isSome)
     && decide ((e :: es).length + ([] : List Keyword).length + (if ([] : List Keyword).isEmpty then 0 else 1) < 30)) = true := by rfl)
   (hline : (apos.endLine == cpos.line) = true := by rfl) (hs : starEach (e :: es) X.env = (false, eval e X.env) :: starEach es X.env := by rfl) (hplain : (backTo cpos (starEach es X.env)).any (·.1) = false := by rfl) :
   HE X (.Call (.Attribute o "count" apos) (e :: es) [] cpos) (tLM3 rCount3 to t) := h_lm PySem.F.slot_list_count PySem.F.type_list_count (mt3_count hu) ho ha hbase hfew hline hs hplain
end
end L2
namespace L2
open PySem PySem.Spec PyProof.Rows
section
variable {X : Cx}
end
end L2
namespace L2
open PySem PySem.Spec PyProof.Rows LM
local macro_rules | `(tactic| walk_at "rd") => `(tactic| (try simp only [ rCount3, tAugI3, rMax3, rSorted3, tRet3, tRaise3, tCallX, tChain3, tCB3, tCons3, tNil3, tVar3, tK, tOp3, tUn3, tSeq3, tSet3, tNext3, tIfS3, tDrop3, tAsg3, tTest3, tTru3, tNot3, tAnd3, tOr3, tAndV3, tComp3, tTup3, tLst3, tCall3, tLM3, tLM0, tLRng1, tTRng1, tLMS, rIdxS, isSeq, rExt3, tYes3,
 gName3, gSub3, strsT_map, tSl3, tRev3, kRev3, tNo3, tPt3, iSeq3, iRevA, iRng1_3, iRng2_3, iRng3_3, tTRng3, rAdd3, rSub3, rMul3, rDiv3, rMod3, rPow3, rInt, rNeg3, rIx3, rLen3, rAbs3, rTuple3, rList3, rAll3, rApp3, rPop3, rIndex3, rLt3, rLe3, rGt3, rGe3, rCmp3, rEq3, rNe3, rEqv, truT, isLst,
 start3_cons, start3_none, start3_nil, pick3_none, pick3_some, pick3_nil, join_some, List.getElem?_cons_zero, List.getElem?_cons_succ, List.set_cons_zero, List.set_cons_succ, List.length_cons, List.length_nil, List.map_nil, List.isEmpty_cons, List.isEmpty_nil, updM_same, updM_updM, atI_0, atI_1, atI_2, ixN_0, bools_map, intsT_map,
 pureT_int, pureT_bl, pureT_tup, pureTs_cons, pureTs_nil, pureTs_ints, depT_int, depT_bl, depT_tup, depTs_cons, depTs_nil, depTs_ints, eqT_tup, eqT_int, eqTs_cons, eqTs_nil, eqTs_ints, id, Bool.not_true, Bool.not_false, Bool.and_true, Bool.true_and, Bool.or_false, Bool.false_or,
 decide_eq_true_eq, Bool.not_eq_true', decide_eq_false_iff_not, Bool.false_eq_true, ↓reduceIte, if_true, if_false, true_and, and_true, and_self, Nat.zero_le, not_true_eq_false, not_false_eq_true, List.length_map, List.length_append, List.length_singleton]))
noncomputable abbrev top (i : Nat) : Stmt := PySem.Challenge.pw_loopwright_k31_forms_refused.main.body.getD i (.Pass ⟨0, 0, 0, 0⟩)
noncomputable abbrev s_is_letter : Stmt := top 11
noncomputable abbrev s_is_word : Stmt := top 12
noncomputable abbrev s_is_plait : Stmt := top 13
noncomputable abbrev s_looked : Stmt := top 14
noncomputable abbrev s_looked_both : Stmt := top 15
noncomputable abbrev s_contrary : Stmt := top 16
noncomputable abbrev s_exchanged : Stmt := top 17
noncomputable abbrev s_places_in : Stmt := top 18
noncomputable abbrev s_plain_order : Stmt := top 21
noncomputable abbrev s_half_twist : Stmt := top 22
noncomputable abbrev s_can_begin : Stmt := top 23
noncomputable abbrev s_letters_in : Stmt := top 24
noncomputable abbrev s_flipped_order : Stmt := top 25
noncomputable abbrev s_order_for : Stmt := top 26
noncomputable abbrev s_moved_ahead : Stmt := top 27
noncomputable abbrev s_put_behind : Stmt := top 28
noncomputable abbrev s_form_by_letters : Stmt := top 29
noncomputable abbrev s_form_of : Stmt := top 30
noncomputable abbrev s_form_by : Stmt := top 31
noncomputable abbrev s_same_form : Stmt := top 32
noncomputable abbrev s_can_stand : Stmt := top 33
noncomputable abbrev s_can_stand_behind : Stmt := top 34
noncomputable abbrev s_is_form : Stmt := top 35
noncomputable abbrev s_word_of : Stmt := top 36
noncomputable abbrev s__law_cell_at : Stmt := top 38
noncomputable abbrev s__law_state : Stmt := top 39
noncomputable abbrev s__law_choice : Stmt := top 40
noncomputable abbrev s__law_word : Stmt := top 41
noncomputable abbrev s__law_plait : Stmt := top 42
noncomputable abbrev s__law_bad : Stmt := top 43
noncomputable abbrev s__law_marks : Stmt := top 44
noncomputable abbrev s__law_refused : Stmt := top 45
noncomputable abbrev s__law_called : Stmt := top 46
noncomputable abbrev s__law_told : Stmt := top 47
noncomputable abbrev s_law : Stmt := top 48
theorem sc_is_letter : FnScope ["strands", "letter"] ["strands", "letter"] (defScope s_is_letter) := ⟨rfl, rfl, rfl, by decide +kernel, rfl, by decide +kernel, by decide +kernel⟩
theorem sc_is_word : FnScope ["strands", "word", "most"] ["strands", "word", "most"] (defScope s_is_word) := ⟨rfl, rfl, rfl, by decide +kernel, rfl, by decide +kernel, by decide +kernel⟩
theorem sc_is_plait : FnScope ["plait"] ["plait"] (defScope s_is_plait) := ⟨rfl, rfl, rfl, by decide +kernel, rfl, by decide +kernel, by decide +kernel⟩
theorem sc_looked : FnScope ["plait"] ["plait"] (defScope s_looked) := ⟨rfl, rfl, rfl, by decide +kernel, rfl, by decide +kernel, by decide +kernel⟩
theorem sc_looked_both : FnScope ["one", "other", "letters"] ["one", "other"] (defScope s_looked_both) := ⟨rfl, rfl, rfl, by decide +kernel, rfl, by decide +kernel, by decide +kernel⟩
theorem sc_contrary : FnScope ["word"] ["word"] (defScope s_contrary) := ⟨rfl, rfl, rfl, by decide +kernel, rfl, by decide +kernel, by decide +kernel⟩
theorem sc_exchanged : FnScope ["row", "at"] ["row", "at"] (defScope s_exchanged) := ⟨rfl, rfl, rfl, by decide +kernel, rfl, by decide +kernel, by decide +kernel⟩
theorem sc_places_in : FnScope ["order"] ["order"] (defScope s_places_in) := ⟨rfl, rfl, rfl, by decide +kernel, rfl, by decide +kernel, by decide +kernel⟩
theorem sc_plain_order : FnScope ["strands"] ["strands"] (defScope s_plain_order) := ⟨rfl, rfl, rfl, by decide +kernel, rfl, by decide +kernel, by decide +kernel⟩
theorem sc_half_twist : FnScope ["strands"] ["strands"] (defScope s_half_twist) := ⟨rfl, rfl, rfl, by decide +kernel, rfl, by decide +kernel, by decide +kernel⟩
theorem sc_can_begin : FnScope ["order", "letter"] ["order", "letter"] (defScope s_can_begin) := ⟨rfl, rfl, rfl, by decide +kernel, rfl, by decide +kernel, by decide +kernel⟩
theorem sc_letters_in : FnScope ["order", "letters", "letter"] ["order"] (defScope s_letters_in) := ⟨rfl, rfl, rfl, by decide +kernel, rfl, by decide +kernel, by decide +kernel⟩
theorem sc_flipped_order : FnScope ["order"] ["order"] (defScope s_flipped_order) := ⟨rfl, rfl, rfl, by decide +kernel, rfl, by decide +kernel, by decide +kernel⟩
theorem sc_order_for : FnScope ["strands", "letter"] ["strands", "letter"] (defScope s_order_for) := ⟨rfl, rfl, rfl, by decide +kernel, rfl, by decide +kernel, by decide +kernel⟩
theorem sc_moved_ahead : FnScope ["one", "other", "ends", "letter"] ["one", "other"] (defScope s_moved_ahead) := ⟨rfl, rfl, rfl, by decide +kernel, rfl, by decide +kernel, by decide +kernel⟩
theorem sc_put_behind : FnScope ["orders", "order", "at", "pair"] ["orders", "order"] (defScope s_put_behind) := ⟨rfl, rfl, rfl, by decide +kernel, rfl, by decide +kernel, by decide +kernel⟩
theorem sc_form_by_letters : FnScope ["strands", "word", "still_to_pass", "power", "orders", "letter", "order", "twists"] ["strands", "word"] (defScope s_form_by_letters) := ⟨rfl, rfl, rfl, by decide +kernel, rfl, by decide +kernel, by decide +kernel⟩
theorem sc_form_of : FnScope ["plait"] ["plait"] (defScope s_form_of) := ⟨rfl, rfl, rfl, by decide +kernel, rfl, by decide +kernel, by decide +kernel⟩
theorem sc_form_by : FnScope ["strands", "word"] ["strands", "word"] (defScope s_form_by) := ⟨rfl, rfl, rfl, by decide +kernel, rfl, by decide +kernel, by decide +kernel⟩
theorem sc_same_form : FnScope ["one", "other"] ["one", "other"] (defScope s_same_form) := ⟨rfl, rfl, rfl, by decide +kernel, rfl, by decide +kernel, by decide +kernel⟩
theorem sc_can_stand : FnScope ["strands", "order"] ["strands", "order"] (defScope s_can_stand) := ⟨rfl, rfl, rfl, by decide +kernel, rfl, by decide +kernel, by decide +kernel⟩
theorem sc_can_stand_behind : FnScope ["order", "other", "ends"] ["order", "other"] (defScope s_can_stand_behind) := ⟨rfl, rfl, rfl, by decide +kernel, rfl, by decide +kernel, by decide +kernel⟩
theorem sc_is_form : FnScope ["strands", "form", "orders"] ["strands", "form"] (defScope s_is_form) := ⟨rfl, rfl, rfl, by decide +kernel, rfl, by decide +kernel, by decide +kernel⟩
theorem sc_word_of : FnScope ["strands", "form", "twist", "letters", "order"] ["strands", "form"] (defScope s_word_of) := ⟨rfl, rfl, rfl, by decide +kernel, rfl, by decide +kernel, by decide +kernel⟩
theorem sc__law_cell_at : FnScope ["script", "k"] ["script", "k"] (defScope s__law_cell_at) := ⟨rfl, rfl, rfl, by decide +kernel, rfl, by decide +kernel, by decide +kernel⟩
theorem sc__law_state : FnScope ["script", "k", "cell"] ["script", "k"] (defScope s__law_state) := ⟨rfl, rfl, rfl, by decide +kernel, rfl, by decide +kernel, by decide +kernel⟩
theorem sc__law_choice : FnScope ["state", "many", "found", "mixed"] ["state", "many"] (defScope s__law_choice) := ⟨rfl, rfl, rfl, by decide +kernel, rfl, by decide +kernel, by decide +kernel⟩
theorem sc__law_word : FnScope ["state", "strands", "count"] ["state", "strands", "count"] (defScope s__law_word) := ⟨rfl, rfl, rfl, by decide +kernel, rfl, by decide +kernel, by decide +kernel⟩
theorem sc__law_plait : FnScope ["state", "least", "most", "letters", "strands"] ["state", "least", "most", "letters"] (defScope s__law_plait) := ⟨rfl, rfl, rfl, by decide +kernel, rfl, by decide +kernel, by decide +kernel⟩
theorem sc__law_bad : FnScope ["state", "strands", "word", "far", "kind", "more", "at", "letter"] ["state"] (defScope s__law_bad) := ⟨rfl, rfl, rfl, by decide +kernel, rfl, by decide +kernel, by decide +kernel⟩
theorem sc__law_marks : FnScope ["e", "marks"] ["e"] (defScope s__law_marks) := ⟨rfl, rfl, rfl, by decide +kernel, rfl, by decide +kernel, by decide +kernel⟩
theorem sc__law_refused : FnScope ["marks", "which"] ["marks", "which"] (defScope s__law_refused) := ⟨rfl, rfl, rfl, by decide +kernel, rfl, by decide +kernel, by decide +kernel⟩
theorem sc__law_called : FnScope ["way", "one", "other"] ["way", "one", "other"] (defScope s__law_called) := ⟨rfl, rfl, rfl, by decide +kernel, rfl, by decide +kernel, by decide +kernel⟩
theorem sc__law_told : FnScope ["way", "one", "other", "marks", "e"] ["way", "one", "other"] (defScope s__law_told) := ⟨rfl, rfl, rfl, by decide +kernel, rfl, by decide +kernel, by decide +kernel⟩
theorem sc_law : FnScope ["script", "state", "good", "bad", "unlike_one", "long", "plain", "rows"] ["script"] (defScope s_law) := ⟨rfl, rfl, rfl, by decide +kernel, rfl, by decide +kernel, by decide +kernel⟩
structure Zs (K : PySem.W.Frag) (P_ z1 z2 z3 z4 z5 z6 : Addr) (mg : Str → Option Value) : Prop where
 xs : Xs K mg P_ [("NoPlait", z1), ("NoRoom", z2), ("NoStep", z3), ("NoNumber", z4), ("NoTable", z5), ("BadNote", z6)]
 b_ValueError : mg "ValueError" = none
 b_abs : mg "abs" = none
 b_all : mg "all" = none
 b_isinstance : mg "isinstance" = none
 b_len : mg "len" = none
 b_list : mg "list" = none
 b_max : mg "max" = none
 b_range : mg "range" = none
 b_reversed : mg "reversed" = none
 b_sorted : mg "sorted" = none
 b_tuple : mg "tuple" = none
 c_MOST_LETTERS : ∃ tk, mg "MOST_LETTERS" = some (.int 16 tk)
 c_MOST_LETTERS_IN_FORM : ∃ tk, mg "MOST_LETTERS_IN_FORM" = some (.int 500 tk)
 c_MOST_STRANDS : ∃ tk, mg "MOST_STRANDS" = some (.int 6 tk)
noncomputable def sp_is_letter : Sp3 := fun ts M Q => match ts with
 | [.int n, .int l] => Q (.bl (isLet n l)) M
 | _ => False
theorem ok_is_letter {P : Program} {w : World} {K : PySem.W.Frag} {mg : Str → Option Value} {base : Heap} {f : Addr} {fd : FuncData} {n : Nat} {P_ z1 z2 z3 z4 z5 z6 : Addr}  (F : Fun K "is_letter" "is_letter" s_is_letter f fd) (hm : mg "is_letter" = some (.ref f)) (hb : Binds K fd ["strands", "letter"] []) (Z : Zs K P_ z1 z2 z3 z4 z5 z6 mg)  : Df P w K mg base (n + 1) "is_letter" ["strands", "letter"] sp_is_letter := by
 refine F.dfn hm hb sc_is_letter (by intro ts M Q h; unfold sp_is_letter at h; first | (split at h <;> first | rfl | exact h.elim) | (obtain ⟨_, _, _, _, _, rfl, _⟩ := h; rfl) | (obtain ⟨_, _, _, _, rfl, _⟩ := h; rfl) | (obtain ⟨_, _, _, rfl, _⟩ := h; rfl) | (obtain ⟨_, _, rfl, _⟩ := h; rfl) | (obtain ⟨_, rfl, _⟩ := h; rfl)) ⟨_, fun cdv A outer s H E hr => (ss_one (s_ret (h_chain op3_le op3_lt h_int (h_callB call3_abs Z.b_abs PyProof.Rows.boot_abs (a_cons (hv 1) a_nil)) (hv 0)))), fun ts M Q h => ?_⟩
 unfold sp_is_letter isLet at h
 split at h
 · rename_i n l
   walk_at "rd"
   refine ite2 (fun c => rt3_here ?_) (fun c => rt3_here ?_)
   · simpa [show 1 ≤ l.natAbs by lia] using h
   · simpa [show ¬ 1 ≤ l.natAbs by lia] using h
 · exact h.elim
noncomputable def sp_is_word : Sp3 := fun ts M Q => match ts with
 | [.int n, .tup w, .int k] => ∃ ws : List Int, w = ws.map .int ∧ ws.length < 10000 ∧ Q (.bl (isWd n ws k)) M
 | _ => False
theorem ok_is_word {P : Program} {w : World} {K : PySem.W.Frag} {mg : Str → Option Value} {base : Heap} {f : Addr} {fd : FuncData} {n : Nat} {P_ z1 z2 z3 z4 z5 z6 : Addr}  (F : Fun K "is_word" "is_word" s_is_word f fd) (hm : mg "is_word" = some (.ref f)) (hb : Binds K fd ["strands", "word", "most"] []) (Z : Zs K P_ z1 z2 z3 z4 z5 z6 mg) (D_is_letter : Df P w K mg base n "is_letter" ["strands", "letter"] sp_is_letter) : Df P w K mg base (n + 1) "is_word" ["strands", "word", "most"] sp_is_word := by
 obtain ⟨tk_MOST_STRANDS, c_MOST_STRANDS⟩ := Z.c_MOST_STRANDS
 refine F.dfn hm hb sc_is_word (by intro ts M Q h; unfold sp_is_word at h; first | (split at h <;> first | rfl | exact h.elim) | (obtain ⟨_, _, _, _, _, rfl, _⟩ := h; rfl) | (obtain ⟨_, _, _, _, rfl, _⟩ := h; rfl) | (obtain ⟨_, _, _, rfl, _⟩ := h; rfl) | (obtain ⟨_, _, rfl, _⟩ := h; rfl) | (obtain ⟨_, rfl, _⟩ := h; rfl)) ⟨_, fun cdv A outer s H E hr => (ss_cons (s_if (HW.ht (w_or (h_not (h_tchain op3_le op3_le h_int (hv 0) (h_globI c_MOST_STRANDS))) (w_or1 (h_tcmp op3_gt (h_callB call3_len Z.b_len PySem.boot_len (a_cons (hv 1) a_nil)) (hv 2) (nomark _))))) (ss_one (s_ret h_bl)) ss_nil) (ss_one (s_ret (h_callB (call3_all rfl) Z.b_all PyProof.Rows.boot_all (a_cons (h_comp rfl (i_seq (hv 1)) (blk_scope (outer := defScope s_is_word) (N := ["strands", "word", "most"]) (N' := ["letter", "strands"]) (ix := [none, some 0]) (by decide +kernel) rfl rfl) bt_name (fun _ _ _ _ _ => pg_name (i := 0) (show List.Nodup (["letter", "strands"] : List Str) by decide +kernel) rfl (Or.inl rfl) (Or.inr rfl)) (fun _ _ _ _ _ => ts_nil) (fun _ _ _ _ _ => (h_call D_is_letter hr (a_cons (hv 1) (a_cons (hv 0) a_nil))))) a_nil))))), fun ts M Q h => ?_⟩
 unfold sp_is_word at h
 split at h
 · rename_i n w k
   obtain ⟨ws, rfl, hl, h⟩ := h
   unfold isWd at h
   walk_at "rd"
   refine ite2 (fun c1 => ite2 (fun c2 => ?_) fun c2 => ite2 (fun c3 => ?_) fun c3 => ?_) fun c1 => ?_
   · rw [decide_eq_false c2, Bool.and_false, Bool.false_and] at h
     exact rt3_here h
   · rw [decide_eq_false (show ¬ (ws.length : Int) ≤ k by lia), Bool.and_false, Bool.false_and] at h
     exact rt3_here h
   · rw [decide_eq_true c1, decide_eq_true (show n ≤ 6 by lia), decide_eq_true (show (ws.length : Int) ≤ k by lia)] at h
     refine ⟨fun i ys M' => ys = ((ws.take i).map (isLet n)).map T.bl ∧ M' = M, ⟨rfl, rfl⟩, fun _ _ _ _ => trivial, Nat.lt_of_le_of_lt (by lia : ws.length ≤ 10000) (by decide), ?_, ?_⟩
     · rintro i x ys M' hx ⟨rfl, rfl⟩
       obtain ⟨l, hl', rfl⟩ := get_map_int hx
       unfold sp_is_letter
       refine ⟨?_, rfl⟩
       rw [← take_succ_map (isLet n) hl', List.map_append]; rfl
     · rintro ys M' ⟨rfl, rfl⟩ p hp
       rw [List.take_length, bools_map]
       refine rt3_sub (M0 := M') ?_ (Sub.new hp)
       rw [List.all_map]
       exact h
   · rw [decide_eq_false c1, Bool.false_and, Bool.false_and, Bool.false_and] at h
     exact rt3_here h
 · exact h.elim
noncomputable def sp_is_plait : Sp3 := fun ts M Q => match ts with
 | [.tup [.int n, .tup w]] => ∃ ws : List Int, w = ws.map .int ∧ ws.length < 10000 ∧ Q (.bl (isPl n ws)) M
 | _ => False
theorem ok_is_plait {P : Program} {w : World} {K : PySem.W.Frag} {mg : Str → Option Value} {base : Heap} {f : Addr} {fd : FuncData} {n : Nat} {P_ z1 z2 z3 z4 z5 z6 : Addr}  (F : Fun K "is_plait" "is_plait" s_is_plait f fd) (hm : mg "is_plait" = some (.ref f)) (hb : Binds K fd ["plait"] []) (Z : Zs K P_ z1 z2 z3 z4 z5 z6 mg) (D_is_word : Df P w K mg base n "is_word" ["strands", "word", "most"] sp_is_word) : Df P w K mg base (n + 1) "is_plait" ["plait"] sp_is_plait := by
 obtain ⟨tk_MOST_LETTERS, c_MOST_LETTERS⟩ := Z.c_MOST_LETTERS
 refine F.dfn hm hb sc_is_plait (by intro ts M Q h; unfold sp_is_plait at h; first | (split at h <;> first | rfl | exact h.elim) | (obtain ⟨_, _, _, _, _, rfl, _⟩ := h; rfl) | (obtain ⟨_, _, _, _, rfl, _⟩ := h; rfl) | (obtain ⟨_, _, _, rfl, _⟩ := h; rfl) | (obtain ⟨_, _, rfl, _⟩ := h; rfl) | (obtain ⟨_, rfl, _⟩ := h; rfl)) ⟨_, fun cdv A outer s H E hr => (ss_one (s_ret (h_call D_is_word hr (a_cons (h_ix (hv 0) h_int) (a_cons (h_ix (hv 0) h_int) (a_cons (h_globI c_MOST_LETTERS) a_nil)))))), fun ts M Q h => ?_⟩
 unfold sp_is_plait at h
 split at h
 · rename_i n w
   obtain ⟨ws, rfl, hl, h⟩ := h
   walk_at "rd"
   refine ⟨ws, rfl, hl, ?_⟩
   rw [isWd_16]
   exact rt3_here h
 · exact h.elim
noncomputable def sp_looked : Sp3X := fun ts M Q E => match ts with
 | [.tup [.int n, .tup w]] => ∃ ws : List Int, w = ws.map .int ∧ ws.length < 10000 ∧ (PlOK n ws → Q (.int ws.length) M) ∧ (¬ PlOK n ws → E "NoPlait" M)
 | _ => False
theorem ok_looked {P : Program} {w : World} {K : PySem.W.Frag} {mg : Str → Option Value} {base : Heap} {f : Addr} {fd : FuncData} {n : Nat} {P_ z1 z2 z3 z4 z5 z6 : Addr}  (F : Fun K "looked" "looked" s_looked f fd) (hm : mg "looked" = some (.ref f)) (hb : Binds K fd ["plait"] []) (Z : Zs K P_ z1 z2 z3 z4 z5 z6 mg) (D_is_plait : Df P w K mg base n "is_plait" ["plait"] sp_is_plait) : DfX P w K mg base (n + 1) "looked" ["plait"] sp_looked := by
 refine F.dfnX hm hb sc_looked (by intro ts M Q E h; unfold sp_looked at h; first | (split at h <;> first | rfl | exact h.elim) | (obtain ⟨_, _, _, _, _, rfl, _⟩ := h; rfl) | (obtain ⟨_, _, _, _, rfl, _⟩ := h; rfl) | (obtain ⟨_, _, _, rfl, _⟩ := h; rfl) | (obtain ⟨_, _, rfl, _⟩ := h; rfl) | (obtain ⟨_, rfl, _⟩ := h; rfl)) ⟨_, fun cdv A outer s H E E3 hr acc accN => (ss_consX (s_ifX (HT.x (HT.n (h_not (h_truth (h_call D_is_plait hr (a_cons (hv 0) a_nil)))))) (ss_oneX (s_raiseX accN (Z.xs.cl (.head _)) h_str)) ss_nilX) (ss_oneX (HS.x (HS.n (s_ret (h_callB call3_len Z.b_len PySem.boot_len (a_cons (h_ix (hv 0) h_int) a_nil))))))), fun ts M Q E h => ?_⟩
 unfold sp_looked at h
 split at h
 · rename_i n w
   obtain ⟨ws, rfl, hl, h1, h2⟩ := h
   walk_at "rd"
   refine ⟨ws, rfl, hl, ?_⟩
   dsimp only
   by_cases c : PlOK n ws
   · rw [c.is, if_neg (by decide)]
     exact rt3_here (h1 c)
   · rw [show isPl n ws = false from Bool.eq_false_iff.mpr fun z => c (isPl_iff.mp z), if_pos rfl]
     exact ⟨M, Sub.refl, h2 c⟩
 · exact h.elim
noncomputable def sp_looked_both : Sp3X := fun ts M Q E => ∃ n w m v, ts = [.tup [.int n, .tup w], .tup [.int m, .tup v]] ∧ ∃ ws vs : List Int, w = ws.map .int ∧ v = vs.map .int ∧ ws.length < 10000 ∧ vs.length < 10000 ∧
     (¬ PlOK n ws ∨ ¬ PlOK m vs → E "NoPlait" M) ∧ (PlOK n ws → PlOK m vs → n ≠ m → E "NoStep" M) ∧ (PlOK n ws → PlOK m vs → n = m → Q (.int (ws.length + vs.length)) M)
theorem ok_looked_both {P : Program} {w : World} {K : PySem.W.Frag} {mg : Str → Option Value} {base : Heap} {f : Addr} {fd : FuncData} {n : Nat} {P_ z1 z2 z3 z4 z5 z6 : Addr}  (F : Fun K "looked_both" "looked_both" s_looked_both f fd) (hm : mg "looked_both" = some (.ref f)) (hb : Binds K fd ["one", "other"] []) (Z : Zs K P_ z1 z2 z3 z4 z5 z6 mg) (D_looked : DfX P w K mg base n "looked" ["plait"] sp_looked) : DfX P w K mg base (n + 1) "looked_both" ["one", "other"] sp_looked_both := by
 refine F.dfnX hm hb sc_looked_both (by intro ts M Q E h; unfold sp_looked_both at h; first | (split at h <;> first | rfl | exact h.elim) | (obtain ⟨_, _, _, _, _, rfl, _⟩ := h; rfl) | (obtain ⟨_, _, _, _, rfl, _⟩ := h; rfl) | (obtain ⟨_, _, _, rfl, _⟩ := h; rfl) | (obtain ⟨_, _, rfl, _⟩ := h; rfl) | (obtain ⟨_, rfl, _⟩ := h; rfl)) ⟨_, fun cdv A outer s H E E3 hr acc accN => (ss_consX (s_setX (i := 2) (h_binX op3_add (h_callX acc rfl D_looked hr (a_cons (hv 0) a_nil)) (h_callX acc rfl D_looked hr (a_cons (hv 1) a_nil))) sc_looked_both.nd) (ss_consX (s_ifX (HT.x (HT.n (h_tcmp (op3_ne hr.units) (h_ix (hv 0) h_int) (h_ix (hv 1) h_int) (nomark _)))) (ss_oneX (s_raiseX accN (Z.xs.cl (.tail _ (.tail _ (.head _)))) h_str)) ss_nilX) (ss_oneX (HS.x (HS.n (s_ret (hv 2))))))), fun ts M Q E h => ?_⟩
 unfold sp_looked_both at h
 · obtain ⟨n, w, m, v, rfl, ws, vs, rfl, rfl, hl1, hl2, h1, h2, h3⟩ := h
   walk_at "rd"
   refine ⟨ws, rfl, hl1, fun c1 => ?_, fun c1 => ⟨M, Sub.refl, h1 (.inl c1)⟩⟩
   walk_at "rd"
   refine ⟨vs, rfl, hl2, fun c2 => ?_, fun c2 => ⟨M, Sub.refl, h1 (.inr c2)⟩⟩
   walk_at "rd"
   exact ite2 (fun c => ⟨M, Sub.refl, h2 c1 c2 c⟩) (fun c => rt3_here (h3 c1 c2 (Decidable.not_not.mp c)))
noncomputable def sp_contrary : Sp3 := fun ts M Q => match ts with
 | [.tup w] => ∃ ws : List Int, w = ws.map .int ∧ ws.length < 10000 ∧ Q (.tup ((contrL ws).map .int)) M
 | _ => False
theorem ok_contrary {P : Program} {w : World} {K : PySem.W.Frag} {mg : Str → Option Value} {base : Heap} {f : Addr} {fd : FuncData} {n : Nat} {P_ z1 z2 z3 z4 z5 z6 : Addr}  (F : Fun K "contrary" "contrary" s_contrary f fd) (hm : mg "contrary" = some (.ref f)) (hb : Binds K fd ["word"] []) (Z : Zs K P_ z1 z2 z3 z4 z5 z6 mg)  : Df P w K mg base (n + 1) "contrary" ["word"] sp_contrary := by
 refine F.dfn hm hb sc_contrary (by intro ts M Q h; unfold sp_contrary at h; first | (split at h <;> first | rfl | exact h.elim) | (obtain ⟨_, _, _, _, _, rfl, _⟩ := h; rfl) | (obtain ⟨_, _, _, _, rfl, _⟩ := h; rfl) | (obtain ⟨_, _, _, rfl, _⟩ := h; rfl) | (obtain ⟨_, _, rfl, _⟩ := h; rfl) | (obtain ⟨_, rfl, _⟩ := h; rfl)) ⟨_, fun cdv A outer s H E hr => (ss_one (s_ret (h_callT call3_tuple Z.b_tuple PyProof.Rows.boot_tuple (a_cons (h_comp rfl (i_reversedA Z.b_reversed (hv 0)) (blk_scope (outer := defScope s_contrary) (N := ["word"]) (N' := ["letter"]) (ix := [none]) (by decide +kernel) rfl rfl) bt_name (fun _ _ _ _ _ => pg_name (i := 0) (show List.Nodup (["letter"] : List Str) by decide +kernel) rfl (Or.inl rfl) (Or.inr rfl)) (fun _ _ _ _ _ => ts_nil) (fun _ _ _ _ _ => (h_un un3_neg (hv 0)))) a_nil)))), fun ts M Q h => ?_⟩
 unfold sp_contrary at h
 split at h
 · rename_i w
   obtain ⟨ws, rfl, hl, h⟩ := h
   walk_at "rd"
   refine ⟨fun i ys M' => ys = ((ws.reverse.take i).map (fun l => -l)).map T.int ∧ M' = M, ⟨rfl, rfl⟩, fun _ _ _ _ => trivial, ?_, ?_, ?_⟩
   · rw [List.length_reverse, List.length_map]; exact Nat.lt_of_le_of_lt (by lia : ws.length ≤ 10000) (by decide)
   · rintro i x ys M' hx ⟨rfl, rfl⟩
     rw [← List.map_reverse] at hx
     obtain ⟨l, hl', rfl⟩ := get_map_int hx
     walk_at "rd"
     rw [← take_succ_map (fun l : Int => -l) hl', List.map_append]; rfl
   · rintro ys M' ⟨rfl, rfl⟩ p hp
     rw [← List.map_reverse, List.length_map, List.take_length]
     exact rt3_sub (M0 := M') h (Sub.new hp)
 · exact h.elim
noncomputable def sp_exchanged : Sp3 := fun ts M Q => match ts with
 | [.tup w, .int k] => ∃ ws : List Int, w = ws.map .int ∧ 0 ≤ k ∧ k + 1 < ws.length ∧ ws.length < 10000 ∧ Q (.tup ((swapN ws k.toNat).map .int)) M
 | _ => False
theorem ok_exchanged {P : Program} {w : World} {K : PySem.W.Frag} {mg : Str → Option Value} {base : Heap} {f : Addr} {fd : FuncData} {n : Nat} {P_ z1 z2 z3 z4 z5 z6 : Addr}  (F : Fun K "exchanged" "exchanged" s_exchanged f fd) (hm : mg "exchanged" = some (.ref f)) (hb : Binds K fd ["row", "at"] []) (Z : Zs K P_ z1 z2 z3 z4 z5 z6 mg)  : Df P w K mg base (n + 1) "exchanged" ["row", "at"] sp_exchanged := by
 refine F.dfn hm hb sc_exchanged (by intro ts M Q h; unfold sp_exchanged at h; first | (split at h <;> first | rfl | exact h.elim) | (obtain ⟨_, _, _, _, _, rfl, _⟩ := h; rfl) | (obtain ⟨_, _, _, _, rfl, _⟩ := h; rfl) | (obtain ⟨_, _, _, rfl, _⟩ := h; rfl) | (obtain ⟨_, _, rfl, _⟩ := h; rfl) | (obtain ⟨_, rfl, _⟩ := h; rfl)) ⟨_, fun cdv A outer s H E hr => (ss_one (s_ret (h_bin op3_add (h_bin op3_add (h_slice (hv 0) o_none (o_some (hv 1))) (h_tup (a_cons (h_ix (hv 0) (h_bin op3_add (hv 1) h_int)) (a_cons (h_ix (hv 0) (hv 1)) a_nil)))) (h_slice (hv 0) (o_some (h_bin op3_add (hv 1) h_int)) o_none)))), fun ts M Q h => ?_⟩
 unfold sp_exchanged at h
 split at h
 · rename_i w k
   obtain ⟨ws, rfl, k0, k1, hl, h⟩ := h
   obtain ⟨i, rfl⟩ := Int.eq_ofNat_of_zero_le k0
   walk_at "rd"
   have a1 : atI (ws.map T.int) ((i : Int) + 1) = some (.int (ws.getD (i + 1) 0)) := by
     have := atI_ints ws ((i : Int) + 1) (by lia) (by lia)
     rwa [show ((i : Int) + 1).toNat = i + 1 by lia] at this
   have a2 : atI (ws.map T.int) (i : Int) = some (.int (ws.getD i 0)) := by
     have := atI_ints ws (i : Int) (by lia) (by lia)
     rwa [Int.toNat_natCast] at this
   have c1 : cutT (ws.map T.int) none (some (i : Int)) = (ws.take i).map T.int := by
     rw [cutT_to _ _ (by lia) (by rw [List.length_map]; lia), Int.toNat_natCast, List.map_take]
   have c2 : cutT (ws.map T.int) (some ((i : Int) + 2)) none = (ws.drop (i + 2)).map T.int := by
     have k1' : i + 1 < ws.length := by lia
     rw [cutT_from _ _ (by lia) (by rw [List.length_map]; lia), show ((i : Int) + 2).toNat = i + 2 by lia, List.map_drop]
   have l1 : (ws.take i).length = i := by rw [List.length_take]; lia
   have l2 : (ws.drop (i + 2)).length = ws.length - (i + 2) := List.length_drop ..
   simp only [a1, a2, c1, c2]
   walk_at "rd"
   refine ⟨by decide, line_len' (by lia), line_len' (by lia), ?_⟩
   have e : List.map T.int (List.take i ws) ++ [T.int (ws.getD (i + 1) 0), T.int (ws.getD i 0)] ++ List.map T.int (List.drop (i + 2) ws) = List.map T.int (swapN ws i) := by
     rw [← swapN_cut ws i (by lia)]
     simp
   rw [e]
   exact rt3_here h
 · exact h.elim
noncomputable def sp_places_in : Sp3 := fun ts M Q => match ts with
 | [.tup w] => ∃ ws : List Int, w = ws.map .int ∧ ws.length < 10000 ∧ (∀ s : Int, 0 ≤ s → s < ws.length → s ∈ ws) ∧ Q (.tup (((range0 ws.length).map fun s => ((ws.idxOf s : Nat) : Int)).map .int)) M
 | _ => False
theorem ok_places_in {P : Program} {w : World} {K : PySem.W.Frag} {mg : Str → Option Value} {base : Heap} {f : Addr} {fd : FuncData} {n : Nat} {P_ z1 z2 z3 z4 z5 z6 : Addr}  (F : Fun K "places_in" "places_in" s_places_in f fd) (hm : mg "places_in" = some (.ref f)) (hb : Binds K fd ["order"] []) (Z : Zs K P_ z1 z2 z3 z4 z5 z6 mg)  : Df P w K mg base (n + 1) "places_in" ["order"] sp_places_in := by
 refine F.dfn hm hb sc_places_in (by intro ts M Q h; unfold sp_places_in at h; first | (split at h <;> first | rfl | exact h.elim) | (obtain ⟨_, _, _, _, _, rfl, _⟩ := h; rfl) | (obtain ⟨_, _, _, _, rfl, _⟩ := h; rfl) | (obtain ⟨_, _, _, rfl, _⟩ := h; rfl) | (obtain ⟨_, _, rfl, _⟩ := h; rfl) | (obtain ⟨_, rfl, _⟩ := h; rfl)) ⟨_, fun cdv A outer s H E hr => (ss_one (s_ret (h_callT call3_tuple Z.b_tuple PyProof.Rows.boot_tuple (a_cons (h_comp rfl (i_range1 Z.b_range (a_cons (h_callB call3_len Z.b_len PySem.boot_len (a_cons (hv 0) a_nil)) a_nil)) (blk_scope (outer := defScope s_places_in) (N := ["order"]) (N' := ["number", "order"]) (ix := [none, some 0]) (by decide +kernel) rfl rfl) bt_name (fun _ _ _ _ _ => pg_name (i := 0) (show List.Nodup (["number", "order"] : List Str) by decide +kernel) rfl (Or.inl rfl) (Or.inr rfl)) (fun _ _ _ _ _ => ts_nil) (fun _ _ _ _ _ => (h_m_index (hv 1) (a_cons (hv 0) a_nil)))) a_nil)))), fun ts M Q h => ?_⟩
 unfold sp_places_in at h
 split at h
 · rename_i w
   obtain ⟨ws, rfl, hl, hmm, h⟩ := h
   walk_at "rd"
   have lm : (ws.map T.int).length = ws.length := List.length_map ..
   refine ⟨by lia, by lia, fun i ys M2 => ys = (((range0 ws.length).take i).map fun s => ((ws.idxOf s : Nat) : Int)).map T.int ∧ M2 = M, ⟨rfl, rfl⟩, fun _ _ _ _ => trivial, by rw [rangeT_length]; exact Nat.lt_of_le_of_lt (by lia : (ws.length : Int).toNat ≤ 10000) (by decide), ?_, ?_⟩
   · rintro i x ys M2 hx ⟨rfl, rfl⟩
     rw [rangeT0] at hx
     obtain ⟨s, hs, rfl⟩ := get_map_int hx
     obtain ⟨s0, s1⟩ := mem_range0 (List.mem_of_getElem? hs)
     walk_at "rd"
     refine ⟨hmm s s0 s1, ?_⟩
     rw [← take_succ_map (fun s => ((ws.idxOf s : Nat) : Int)) hs, List.map_append]; rfl
   · rintro ys M2 ⟨rfl, rfl⟩ q hq
     rw [rangeT_length, List.take_of_length_le (by rw [range0_length]; exact Nat.le_refl _)]
     exact rt3_sub (M0 := M2) h (Sub.new hq)
 · exact h.elim
noncomputable def sp_plain_order : Sp3 := fun ts M Q => match ts with
 | [.int n] => 0 ≤ n ∧ n ≤ 6 ∧ Q (.tup (rangeT 0 n.toNat)) M
 | _ => False
theorem ok_plain_order {P : Program} {w : World} {K : PySem.W.Frag} {mg : Str → Option Value} {base : Heap} {f : Addr} {fd : FuncData} {n : Nat} {P_ z1 z2 z3 z4 z5 z6 : Addr}  (F : Fun K "plain_order" "plain_order" s_plain_order f fd) (hm : mg "plain_order" = some (.ref f)) (hb : Binds K fd ["strands"] []) (Z : Zs K P_ z1 z2 z3 z4 z5 z6 mg)  : Df P w K mg base (n + 1) "plain_order" ["strands"] sp_plain_order := by
 refine F.dfn hm hb sc_plain_order (by intro ts M Q h; unfold sp_plain_order at h; first | (split at h <;> first | rfl | exact h.elim) | (obtain ⟨_, _, _, _, _, rfl, _⟩ := h; rfl) | (obtain ⟨_, _, _, _, rfl, _⟩ := h; rfl) | (obtain ⟨_, _, _, rfl, _⟩ := h; rfl) | (obtain ⟨_, _, rfl, _⟩ := h; rfl) | (obtain ⟨_, rfl, _⟩ := h; rfl)) ⟨_, fun cdv A outer s H E hr => (ss_one (s_ret (h_tupRange1 Z.b_tuple Z.b_range (a_cons (hv 0) a_nil)))), fun ts M Q h => ?_⟩
 unfold sp_plain_order at h
 split at h
 · rename_i n
   obtain ⟨h0, h1, h⟩ := h
   walk_at "rd"
   exact ⟨⟨by lia, by lia⟩, rt3_here h⟩
 · exact h.elim
noncomputable def sp_half_twist : Sp3 := fun ts M Q => match ts with
 | [.int n] => 0 ≤ n ∧ n ≤ 6 ∧ Q (.tup ((range0 n).reverse.map .int)) M
 | _ => False
theorem ok_half_twist {P : Program} {w : World} {K : PySem.W.Frag} {mg : Str → Option Value} {base : Heap} {f : Addr} {fd : FuncData} {n : Nat} {P_ z1 z2 z3 z4 z5 z6 : Addr}  (F : Fun K "half_twist" "half_twist" s_half_twist f fd) (hm : mg "half_twist" = some (.ref f)) (hb : Binds K fd ["strands"] []) (Z : Zs K P_ z1 z2 z3 z4 z5 z6 mg)  : Df P w K mg base (n + 1) "half_twist" ["strands"] sp_half_twist := by
 refine F.dfn hm hb sc_half_twist (by intro ts M Q h; unfold sp_half_twist at h; first | (split at h <;> first | rfl | exact h.elim) | (obtain ⟨_, _, _, _, _, rfl, _⟩ := h; rfl) | (obtain ⟨_, _, _, _, rfl, _⟩ := h; rfl) | (obtain ⟨_, _, _, rfl, _⟩ := h; rfl) | (obtain ⟨_, _, rfl, _⟩ := h; rfl) | (obtain ⟨_, rfl, _⟩ := h; rfl)) ⟨_, fun cdv A outer s H E hr => (ss_one (s_ret (h_tupRange3 Z.b_tuple Z.b_range (a_cons (h_bin op3_sub (hv 0) h_int) (a_cons (h_un un3_neg h_int) (a_cons (h_un un3_neg h_int) a_nil)))))), fun ts M Q h => ?_⟩
 unfold sp_half_twist at h
 split at h
 · rename_i n
   obtain ⟨h0, h1, h⟩ := h
   walk_at "rd"
   have e : rangeD (n - 1) (n - 1 - -1).toNat = (range0 n).reverse.map .int := by
     rcases (show n = 0 ∨ n = 1 ∨ n = 2 ∨ n = 3 ∨ n = 4 ∨ n = 5 ∨ n = 6 by lia) with rfl | rfl | rfl | rfl | rfl | rfl | rfl <;> rfl
   rw [e]
   exact ⟨⟨by lia, by lia, by lia, by lia, by lia⟩, rt3_here h⟩
 · exact h.elim
noncomputable def sp_can_begin : Sp3 := fun ts M Q => match ts with
 | [.tup r, .int l] => ∃ ws : List Int, r = ws.map .int ∧ 1 ≤ l ∧ l < ws.length ∧ Q (.bl (decide (gI ws (l - 1) > gI ws l))) M
 | _ => False
theorem ok_can_begin {P : Program} {w : World} {K : PySem.W.Frag} {mg : Str → Option Value} {base : Heap} {f : Addr} {fd : FuncData} {n : Nat} {P_ z1 z2 z3 z4 z5 z6 : Addr}  (F : Fun K "can_begin" "can_begin" s_can_begin f fd) (hm : mg "can_begin" = some (.ref f)) (hb : Binds K fd ["order", "letter"] []) (Z : Zs K P_ z1 z2 z3 z4 z5 z6 mg)  : Df P w K mg base (n + 1) "can_begin" ["order", "letter"] sp_can_begin := by
 refine F.dfn hm hb sc_can_begin (by intro ts M Q h; unfold sp_can_begin at h; first | (split at h <;> first | rfl | exact h.elim) | (obtain ⟨_, _, _, _, _, rfl, _⟩ := h; rfl) | (obtain ⟨_, _, _, _, rfl, _⟩ := h; rfl) | (obtain ⟨_, _, _, rfl, _⟩ := h; rfl) | (obtain ⟨_, _, rfl, _⟩ := h; rfl) | (obtain ⟨_, rfl, _⟩ := h; rfl)) ⟨_, fun cdv A outer s H E hr => (ss_one (s_ret (h_cmp op3_gt (h_ix (hv 0) (h_bin op3_sub (hv 1) h_int)) (h_ix (hv 0) (hv 1)) (nomark _)))), fun ts M Q h => ?_⟩
 unfold sp_can_begin at h
 split at h
 · rename_i r l
   obtain ⟨ws, rfl, h0, h1, h⟩ := h
   walk_at "rd"
   rw [gI_at (by lia) (by lia), gI_at (by lia) h1]
   exact rt3_here h
 · exact h.elim
noncomputable def sp_letters_in : Sp3 := fun ts M Q => match ts with
 | [.tup r] => ∃ (n : Int) (ws : List Int), r = ws.map .int ∧ 1 ≤ n ∧ n ≤ 6 ∧ IsP n ws ∧ Q (.tup ((ltO ws).map .int)) M
 | _ => False
theorem ok_letters_in {P : Program} {w : World} {K : PySem.W.Frag} {mg : Str → Option Value} {base : Heap} {f : Addr} {fd : FuncData} {n : Nat} {P_ z1 z2 z3 z4 z5 z6 : Addr}  (F : Fun K "letters_in" "letters_in" s_letters_in f fd) (hm : mg "letters_in" = some (.ref f)) (hb : Binds K fd ["order"] []) (Z : Zs K P_ z1 z2 z3 z4 z5 z6 mg) (D_can_begin : Df P w K mg base n "can_begin" ["order", "letter"] sp_can_begin) (D_exchanged : Df P w K mg base n "exchanged" ["row", "at"] sp_exchanged) : Df P w K mg base (n + 1) "letters_in" ["order"] sp_letters_in := by
 refine F.dfn hm hb sc_letters_in (by intro ts M Q h; unfold sp_letters_in at h; first | (split at h <;> first | rfl | exact h.elim) | (obtain ⟨_, _, _, _, _, rfl, _⟩ := h; rfl) | (obtain ⟨_, _, _, _, rfl, _⟩ := h; rfl) | (obtain ⟨_, _, _, rfl, _⟩ := h; rfl) | (obtain ⟨_, _, rfl, _⟩ := h; rfl) | (obtain ⟨_, rfl, _⟩ := h; rfl)) ⟨_, fun cdv A outer s H E hr => (ss_cons (s_set (i := 1) (h_lst a_nil) sc_letters_in.nd) (ss_cons (s_set (i := 2) h_int sc_letters_in.nd) (ss_cons (s_while PassesOwn.never (h_tcmp op3_lt (hv 2) (h_callB call3_len Z.b_len PySem.boot_len (a_cons (hv 0) a_nil)) (nomark _)) (ss_one (s_if (h_truth (h_call D_can_begin hr (a_cons (hv 0) (a_cons (hv 2) a_nil)))) (ss_cons (s_expr (h_m_append (hv 1) (a_cons (hv 2) a_nil))) (ss_cons (s_set (i := 0) (h_call D_exchanged hr (a_cons (hv 0) (a_cons (h_bin op3_sub (hv 2) h_int) a_nil))) sc_letters_in.nd) (ss_one (s_set (i := 2) h_int sc_letters_in.nd)))) (ss_one (s_augI (i := 2) ip_add h_int sc_letters_in.nd))))) (ss_one (s_ret (h_callT call3_tuple Z.b_tuple PyProof.Rows.boot_tuple (a_cons (hv 1) a_nil))))))), fun ts M Q h => ?_⟩
 unfold sp_letters_in at h
 split at h
 · rename_i r
   obtain ⟨n, ws, rfl, h1, h6, hP, h⟩ := h
   refine seq_cut3 fun K3 hK3 => ?_
   walk_at "rd"
   intro q hq
   unfold tWhile3
   refine ⟨fun m ρ M' => ∃ (row acc : List Int) (l : Nat), ρ = [some (.tup (row.map .int)), some (.adr q), some (.int (l : Nat))] ∧ M' = updM M q (.lst (acc.map .int)) ∧ IsP n row ∧ 1 ≤ l ∧ l ≤ row.length ∧ (∀ k : Nat, 1 ≤ k → k < l → dsB row k = false) ∧ acc ++ ltO row = ltO ws ∧ m = (217 - Sn 0 row) * 10 + (10 - l), ⟨_, ws, [], 1, rfl, rfl, hP, Nat.le_refl _, by have := hP.len; lia, fun k a b => by lia, rfl, rfl⟩, ?_⟩
   rintro m ρ M' ⟨row, acc, l, rfl, rfl, hR, hl1, hll, hk, hacc, rfl⟩
   have hlen := hR.len
   walk_at "rd"
   refine ite2 (fun hlt => ?_) (fun hge => ?_)
   · have hsn := Sn_small hR h6
     refine ⟨row, rfl, by lia, by lia, ?_⟩
     dsimp only
     refine ite2 (fun hd => ?_) (fun hd => ?_)
     · have hdb : dsB row l = true := hd
       rw [updM_same]
       dsimp only
       have hL : acc.length ≤ (ltO ws).length := by rw [← hacc, List.length_append]; lia
       have hL2 := ltO_len ws
       refine ⟨trivial, line_len (by rw [List.length_map]; lia), row, rfl, by lia, by lia, by lia, ?_⟩
       have hsw : swapN row ((l : Int) - 1).toNat = begL row l := by rw [show ((l : Int) - 1).toNat = l - 1 by lia]; exact swapN_begL hl1 (by lia)
       have hup := beg_up hR hl1 (by lia) hdb
       have hR2 := beg_isP hR hl1 (by lia)
       have hl2 := hR2.len
       rw [hsw]
       refine ⟨_, ?_, begL row l, acc ++ [(l : Int)], 1, rfl, ?_, hR2, Nat.le_refl _, by lia, fun k a b => by lia, ?_, rfl⟩
       · have := Sn_small hR2 h6
         lia
       · rw [updM_updM, List.map_append]; rfl
       · rw [← hacc, ltO_cons hR h6 (fsD_first hl1 (by lia) hdb hk) hl1, List.append_assoc]; rfl
     · refine ⟨_, ?_, row, acc, l + 1, rfl, rfl, hR, by lia, by lia, fun k a b => ?_, hacc, rfl⟩
       · lia
       · by_cases z : k = l
         · subst z
           exact Bool.eq_false_iff.mpr hd
         · exact hk k a (by lia)
   · rw [hK3]
     walk_at "rd"
     have e : fsD row = 0 := fsD_zero.mpr fun k a b => hk k a (by lia)
     rw [ltO_nil hR h6 e, List.append_nil] at hacc
     rw [hacc]
     exact rt3_sub h (Sub.new hq)
 · exact h.elim
noncomputable def sp_flipped_order : Sp3 := fun ts M Q => match ts with
 | [.tup r] => ∃ (n : Int) (ws : List Int), r = ws.map .int ∧ 0 ≤ n ∧ n ≤ 6 ∧ IsP n ws ∧ Q (.tup ((flO n ws).map .int)) M
 | _ => False
theorem ok_flipped_order {P : Program} {w : World} {K : PySem.W.Frag} {mg : Str → Option Value} {base : Heap} {f : Addr} {fd : FuncData} {n : Nat} {P_ z1 z2 z3 z4 z5 z6 : Addr}  (F : Fun K "flipped_order" "flipped_order" s_flipped_order f fd) (hm : mg "flipped_order" = some (.ref f)) (hb : Binds K fd ["order"] []) (Z : Zs K P_ z1 z2 z3 z4 z5 z6 mg)  : Df P w K mg base (n + 1) "flipped_order" ["order"] sp_flipped_order := by
 refine F.dfn hm hb sc_flipped_order (by intro ts M Q h; unfold sp_flipped_order at h; first | (split at h <;> first | rfl | exact h.elim) | (obtain ⟨_, _, _, _, _, rfl, _⟩ := h; rfl) | (obtain ⟨_, _, _, _, rfl, _⟩ := h; rfl) | (obtain ⟨_, _, _, rfl, _⟩ := h; rfl) | (obtain ⟨_, _, rfl, _⟩ := h; rfl) | (obtain ⟨_, rfl, _⟩ := h; rfl)) ⟨_, fun cdv A outer s H E hr => (ss_one (s_ret (h_callT call3_tuple Z.b_tuple PyProof.Rows.boot_tuple (a_cons (h_comp rfl (i_reversedA Z.b_reversed (hv 0)) (blk_scope (outer := defScope s_flipped_order) (N := ["order"]) (N' := ["place", "order"]) (ix := [none, some 0]) (by decide +kernel) rfl rfl) bt_name (fun _ _ _ _ _ => pg_name (i := 0) (show List.Nodup (["place", "order"] : List Str) by decide +kernel) rfl (Or.inl rfl) (Or.inr rfl)) (fun _ _ _ _ _ => ts_nil) (fun _ _ _ _ _ => (h_bin op3_sub (h_bin op3_sub (h_callB call3_len Z.b_len PySem.boot_len (a_cons (hv 1) a_nil)) h_int) (hv 0)))) a_nil)))), fun ts M Q h => ?_⟩
 unfold sp_flipped_order at h
 split at h
 · rename_i r
   obtain ⟨n, ws, rfl, h0, h6, hP, h⟩ := h
   have hl := hP.len
   walk_at "rd"
   rw [show (ws.map T.int).reverse = ws.reverse.map T.int from List.map_reverse.symm]
   refine ⟨fun i ys M' => ys = ((ws.reverse.take i).map fun x => n - 1 - x).map T.int ∧ M' = M, ⟨rfl, rfl⟩, fun _ _ _ _ => trivial, line_len (by rw [List.length_map, List.length_reverse]; lia), ?_, ?_⟩
   · rintro i x ys M' hx ⟨rfl, eM⟩
     obtain ⟨l, hl', rfl⟩ := get_map_int hx
     refine ⟨?_, eM⟩
     rw [← take_succ_map (fun x => n - 1 - x) hl', List.map_append, show ((ws.length : Nat) : Int) = n by lia]; rfl
   · rintro ys M' ⟨rfl, eM⟩ q hq
     rw [eM] at hq ⊢
     rw [List.length_map, List.take_length]
     exact rt3_sub h (Sub.new hq)
 · exact h.elim
noncomputable def sp_order_for : Sp3 := fun ts M Q => match ts with
 | [.int n, .int l] => 1 ≤ n ∧ n ≤ 6 ∧ LetOK n l ∧ ∀ ws, IsP n ws → Q (.tup (ws.map .int)) M
 | _ => False
theorem ok_order_for {P : Program} {w : World} {K : PySem.W.Frag} {mg : Str → Option Value} {base : Heap} {f : Addr} {fd : FuncData} {n : Nat} {P_ z1 z2 z3 z4 z5 z6 : Addr}  (F : Fun K "order_for" "order_for" s_order_for f fd) (hm : mg "order_for" = some (.ref f)) (hb : Binds K fd ["strands", "letter"] []) (Z : Zs K P_ z1 z2 z3 z4 z5 z6 mg) (D_exchanged : Df P w K mg base n "exchanged" ["row", "at"] sp_exchanged) (D_plain_order : Df P w K mg base n "plain_order" ["strands"] sp_plain_order) (D_half_twist : Df P w K mg base n "half_twist" ["strands"] sp_half_twist) : Df P w K mg base (n + 1) "order_for" ["strands", "letter"] sp_order_for := by
 refine F.dfn hm hb sc_order_for (by intro ts M Q h; unfold sp_order_for at h; first | (split at h <;> first | rfl | exact h.elim) | (obtain ⟨_, _, _, _, _, rfl, _⟩ := h; rfl) | (obtain ⟨_, _, _, _, rfl, _⟩ := h; rfl) | (obtain ⟨_, _, _, rfl, _⟩ := h; rfl) | (obtain ⟨_, _, rfl, _⟩ := h; rfl) | (obtain ⟨_, rfl, _⟩ := h; rfl)) ⟨_, fun cdv A outer s H E hr => (ss_cons (s_if (h_tcmp op3_gt (hv 1) h_int (nomark _)) (ss_one (s_ret (h_call D_exchanged hr (a_cons (h_call D_plain_order hr (a_cons (hv 0) a_nil)) (a_cons (h_bin op3_sub (hv 1) h_int) a_nil))))) ss_nil) (ss_one (s_ret (h_call D_exchanged hr (a_cons (h_call D_half_twist hr (a_cons (hv 0) a_nil)) (a_cons (h_bin op3_sub (h_bin op3_add (hv 0) (hv 1)) h_int) a_nil)))))), fun ts M Q h => ?_⟩
 unfold sp_order_for at h
 split at h
 · rename_i n l
   obtain ⟨h1, h6, hl, h⟩ := h
   have hlen := range0_length n
   have hpl : IsP n (range0 n) := .refl _
   unfold LetOK at hl
   refine seq_cut fun K1 hK1 => ?_
   walk_at "rd"
   refine ite2 (fun c => ?_) (fun c => ?_)
   · refine ⟨by lia, h6, ?_⟩
     rw [rangeT_range0]
     refine ⟨range0 n, rfl, by lia, by lia, by lia, ?_⟩
     exact rt3_here (h _ (swap_isP hpl (by lia)))
   · rw [hK1]
     walk_at "rd"
     refine ⟨by lia, h6, ?_⟩
     refine ⟨(range0 n).reverse, rfl, by lia, by rw [List.length_reverse]; lia, by rw [List.length_reverse]; lia, ?_⟩
     exact rt3_here (h _ (swap_isP (List.reverse_perm _) (by rw [List.length_reverse]; lia)))
 · exact h.elim
noncomputable def sp_moved_ahead : Sp3 := fun ts M Q => match ts with
 | [.tup r, .tup r'] => ∃ (n : Int) (us vs : List Int), r = us.map .int ∧ r' = vs.map .int ∧ 1 ≤ n ∧ n ≤ 6 ∧ IsP n us ∧ IsP n vs ∧ ∀ us' vs', IsP n us' → IsP n vs' → Q (.tup [tupT us', tupT vs']) M
 | _ => False
theorem ms1 {a l : Nat} (h : l < 10) : (217 - a) * 10 + (10 - (l + 1)) < (217 - a) * 10 + (10 - l) := by lia
theorem ms2 {a b l k : Nat} (h : a < b) (hb : b ≤ 216) (hl : l < 10) : (217 - b) * 10 + (10 - k) < (217 - a) * 10 + (10 - l) := by lia
theorem mx1 {l : Nat} (h : 1 ≤ l) : (if (1 : Int) > (l : Int) - 1 then (1 : Int) else (l : Int) - 1) = ((max (l - 1) 1 : Nat) : Int) := by split <;> lia
theorem mx2 {l L : Nat} (h : l < L) : max (l - 1) 1 ≤ L := by lia
theorem mx3 {l : Nat} : 1 ≤ max (l - 1) 1 := by lia
theorem lt_of_i {l L : Nat} (h : (l : Int) < (L : Int)) : l < L := by lia
theorem ok_moved_ahead {P : Program} {w : World} {K : PySem.W.Frag} {mg : Str → Option Value} {base : Heap} {f : Addr} {fd : FuncData} {n : Nat} {P_ z1 z2 z3 z4 z5 z6 : Addr}  (F : Fun K "moved_ahead" "moved_ahead" s_moved_ahead f fd) (hm : mg "moved_ahead" = some (.ref f)) (hb : Binds K fd ["one", "other"] []) (Z : Zs K P_ z1 z2 z3 z4 z5 z6 mg) (D_half_twist : Df P w K mg base n "half_twist" ["strands"] sp_half_twist) (D_flipped_order : Df P w K mg base n "flipped_order" ["order"] sp_flipped_order) (D_places_in : Df P w K mg base n "places_in" ["order"] sp_places_in) (D_can_begin : Df P w K mg base n "can_begin" ["order", "letter"] sp_can_begin) (D_exchanged : Df P w K mg base n "exchanged" ["row", "at"] sp_exchanged) : Df P w K mg base (n + 1) "moved_ahead" ["one", "other"] sp_moved_ahead := by
 refine F.dfn hm hb sc_moved_ahead (by intro ts M Q h; unfold sp_moved_ahead at h; first | (split at h <;> first | rfl | exact h.elim) | (obtain ⟨_, _, _, _, _, rfl, _⟩ := h; rfl) | (obtain ⟨_, _, _, _, rfl, _⟩ := h; rfl) | (obtain ⟨_, _, _, rfl, _⟩ := h; rfl) | (obtain ⟨_, _, rfl, _⟩ := h; rfl) | (obtain ⟨_, rfl, _⟩ := h; rfl)) ⟨_, fun cdv A outer s H E hr => (ss_cons (s_if (h_tcmp (op3_eq hr.units) (hv 1) (h_call D_half_twist hr (a_cons (h_callB call3_len Z.b_len PySem.boot_len (a_cons (hv 1) a_nil)) a_nil)) (nomark _)) (ss_one (s_ret (h_tup (a_cons (hv 1) (a_cons (h_call D_flipped_order hr (a_cons (hv 0) a_nil)) a_nil))))) ss_nil) (ss_cons (s_set (i := 2) (h_call D_places_in hr (a_cons (hv 0) a_nil)) sc_moved_ahead.nd) (ss_cons (s_set (i := 3) h_int sc_moved_ahead.nd) (ss_cons (s_while PassesOwn.never (h_tcmp op3_lt (hv 3) (h_callB call3_len Z.b_len PySem.boot_len (a_cons (hv 0) a_nil)) (nomark _)) (ss_one (s_if (HW.ht (w_and (h_truth (h_call D_can_begin hr (a_cons (hv 1) (a_cons (hv 3) a_nil)))) (w_and1 (h_not (h_truth (h_call D_can_begin hr (a_cons (hv 2) (a_cons (hv 3) a_nil)))))))) (ss_cons (s_set (i := 2) (h_call D_exchanged hr (a_cons (hv 2) (a_cons (h_bin op3_sub (hv 3) h_int) a_nil))) sc_moved_ahead.nd) (ss_cons (s_set (i := 1) (h_call D_exchanged hr (a_cons (hv 1) (a_cons (h_bin op3_sub (hv 3) h_int) a_nil))) sc_moved_ahead.nd) (ss_one (s_set (i := 3) (h_callB (call3_max rfl) Z.b_max PyProof.Rows.boot_max (a_cons (h_bin op3_sub (hv 3) h_int) (a_cons h_int a_nil))) sc_moved_ahead.nd)))) (ss_one (s_augI (i := 3) ip_add h_int sc_moved_ahead.nd))))) (ss_one (s_ret (h_tup (a_cons (h_call D_places_in hr (a_cons (hv 2) a_nil)) (a_cons (hv 1) a_nil))))))))), fun ts M Q h => ?_⟩
 unfold sp_moved_ahead at h
 split at h
 · rename_i r r'
   obtain ⟨n, us, vs, rfl, rfl, h1, h6, hu, hv, h⟩ := h
   have lu := hu.len
   have lv := hv.len
   refine seq_cut fun K1 hK1 => ?_
   walk_at "rd"
   refine ⟨by lia, by lia, ?_⟩
   rw [show ((vs.length : Nat) : Int) = n by lia]
   dsimp only
   refine ⟨by rw [pureT_tup, pureTs_ints], by decide, ite2 (fun c => ?_) (fun c => ?_)⟩
   · refine ⟨n, us, rfl, by lia, h6, hu, by decide, ?_⟩
     exact rt3_here (h vs (flO n us) hv (fl_isP hu))
   · rw [hK1]
     clear hK1
     refine seq_cut2 fun K2 hK2 => ?_
     walk_at "rd"
     refine ⟨us, rfl, by lia, fun s a b => hu.mem.mpr (by lia), ?_⟩
     rw [hK2]
     clear hK2
     refine seq_cut fun K3 hK3 => ?_
     unfold tWhile3
     refine ⟨fun m ρ M' => ∃ (es vs' : List Int) (l : Nat), ρ = [some (.tup (us.map .int)), some (.tup (vs'.map .int)), some (.tup (es.map .int)), some (.int (l : Nat))] ∧ M' = M ∧ IsP n es ∧ IsP n vs' ∧ 1 ≤ l ∧ l ≤ us.length ∧ m = (217 - Sn 0 vs') * 10 + (10 - l), ⟨_, invO us, vs, 1, rfl, rfl, inv_isP (by lia) hu, hv, Nat.le_refl _, by lia, rfl⟩, ?_⟩
     rintro m ρ M' ⟨es, vs', l, rfl, rfl, hes, hvs, hl1, hll, rfl⟩
     have les := hes.len
     have lvs := hvs.len
     have hsn := Sn_small hvs h6
     walk_at "rd"
     refine ite2 (fun hlt => ?_) (fun hge => ?_)
     · have hlt' : l < us.length := lt_of_i hlt
       have hl10 : l < 7 := by clear hsn; lia
       refine ⟨vs', rfl, by lia, by lia, ?_⟩
       dsimp only
       have stay : ∃ m', m' < (217 - Sn 0 vs') * 10 + (10 - l) ∧ ∃ (es1 vs1 : List Int) (l1 : Nat), [some (T.tup (us.map .int)), some (.tup (vs'.map .int)), some (.tup (es.map .int)), some (.int ((l : Int) + 1))] = [some (T.tup (us.map .int)), some (.tup (vs1.map .int)), some (.tup (es1.map .int)), some (.int (l1 : Nat))] ∧ M' = M' ∧ IsP n es1 ∧ IsP n vs1 ∧ 1 ≤ l1 ∧ l1 ≤ us.length ∧ m' = (217 - Sn 0 vs1) * 10 + (10 - l1) := ⟨_, ms1 (Nat.lt_of_lt_of_le hl10 (by decide)), es, vs', l + 1, rfl, rfl, hes, hvs, Nat.succ_le_succ (Nat.zero_le _), hlt', rfl⟩
       refine ite2 (fun hd => ?_) (fun hd => stay)
       have hdb : dsB vs' l = true := hd
       refine ⟨es, rfl, by lia, by lia, ?_⟩
       dsimp only
       refine ite2 (fun he => ?_) (fun he => stay)
       refine ⟨es, rfl, by lia, by lia, by lia, vs', rfl, by lia, by lia, by lia, ?_⟩
       rw [show ((l : Int) - 1).toNat = l - 1 by lia]
       have hP2 := swap_isP (k := l - 1) hes (by lia)
       have hv2 := beg_isP hvs hl1 (by lia)
       have hup := beg_up hvs hl1 (by lia) hdb
       have hsn2 := Sn_small hv2 h6
       rw [swapN_begL (row := vs') hl1 (by lia)]
       rw [mx1 hl1]
       exact ⟨_, ms2 hup hsn2 (Nat.lt_of_lt_of_le hl10 (by decide)), swapN es (l - 1), begL vs' l, max (l - 1) 1, rfl, rfl, hP2, hv2, mx3, mx2 hlt', rfl⟩
     · rw [hK3]
       walk_at "rd"
       refine ⟨es, rfl, by lia, fun s a b => hes.mem.mpr (by lia), by decide, ?_⟩
       exact rt3_here (h (invO es) vs' (inv_isP (by lia) hes) hvs)
 · exact h.elim
noncomputable def sp_put_behind : Sp3 := fun ts M Q => match ts with
 | [.adr q, .tup r] => ∃ (n : Int) (R : List (List Int)) (ws : List Int), M q = some (.lst (R.map tupT)) ∧ r = ws.map .int ∧ 1 ≤ n ∧ n ≤ 6 ∧ R.length ≤ 600 ∧ IsP n ws ∧ (∀ r ∈ R, IsP n r) ∧ ∀ R' : List (List Int), R'.length ≤ R.length + 1 → (∀ r ∈ R', IsP n r) → Q .non (updM M q (.lst (R'.map tupT)))
 | _ => False
theorem while_cut {c : TT3} {b : TS3} {D : Ends3} {ρ : En} {M : MH} (h : ∀ B : TS3, B = b → tWhile3 c B D ρ M) : tWhile3 c b D ρ M := h _ rfl
theorem ok_put_behind {P : Program} {w : World} {K : PySem.W.Frag} {mg : Str → Option Value} {base : Heap} {f : Addr} {fd : FuncData} {n : Nat} {P_ z1 z2 z3 z4 z5 z6 : Addr}  (F : Fun K "put_behind" "put_behind" s_put_behind f fd) (hm : mg "put_behind" = some (.ref f)) (hb : Binds K fd ["orders", "order"] []) (Z : Zs K P_ z1 z2 z3 z4 z5 z6 mg) (D_moved_ahead : Df P w K mg base n "moved_ahead" ["one", "other"] sp_moved_ahead) (D_plain_order : Df P w K mg base n "plain_order" ["strands"] sp_plain_order) : Df P w K mg base (n + 1) "put_behind" ["orders", "order"] sp_put_behind := by
 refine F.dfn hm hb sc_put_behind (by intro ts M Q h; unfold sp_put_behind at h; first | (split at h <;> first | rfl | exact h.elim) | (obtain ⟨_, _, _, _, _, rfl, _⟩ := h; rfl) | (obtain ⟨_, _, _, _, rfl, _⟩ := h; rfl) | (obtain ⟨_, _, _, rfl, _⟩ := h; rfl) | (obtain ⟨_, _, rfl, _⟩ := h; rfl) | (obtain ⟨_, rfl, _⟩ := h; rfl)) ⟨_, fun cdv A outer s H E hr => (ss_cons (s_expr (h_m_append (hv 0) (a_cons (hv 1) a_nil))) (ss_cons (s_set (i := 2) (h_bin op3_sub (h_callB call3_len Z.b_len PySem.boot_len (a_cons (hv 0) a_nil)) h_int) sc_put_behind.nd) (ss_cons (s_while PassesOwn.never (h_tcmp op3_gt (hv 2) h_int (nomark _)) (ss_cons (s_set (i := 3) (h_call D_moved_ahead hr (a_cons (h_ix (hv 0) (h_bin op3_sub (hv 2) h_int)) (a_cons (h_ix (hv 0) (hv 2)) a_nil))) sc_put_behind.nd) (ss_cons (s_if (h_tcmp (op3_eq hr.units) (h_ix (hv 3) h_int) (h_ix (hv 0) (hv 2)) (nomark _)) (ss_one s_break) ss_nil) (ss_cons (s_asg (h_ix (hv 3) h_int) (g_sub (hv 0) (h_bin op3_sub (hv 2) h_int))) (ss_cons (s_asg (h_ix (hv 3) h_int) (g_sub (hv 0) (hv 2))) (ss_one (s_augI (i := 2) ip_sub h_int sc_put_behind.nd))))))) (ss_one (s_if (h_tcmp (op3_eq hr.units) (h_ix (hv 0) (h_un un3_neg h_int)) (h_call D_plain_order hr (a_cons (h_callB call3_len Z.b_len PySem.boot_len (a_cons (hv 1) a_nil)) a_nil)) (nomark _)) (ss_one (s_expr (h_m_pop (hv 0) a_nil))) ss_nil))))), fun ts M Q h => ?_⟩
 unfold sp_put_behind at h
 split at h
 · rename_i q r
   obtain ⟨n, R, ws, hq, rfl, h1, h6, hRl, hw, hR, h⟩ := h
   have hP0 : ∀ r ∈ R ++ [ws], IsP n r := fun x hx => by
     rcases List.mem_append.mp hx with hx | hx
     · exact hR x hx
     · obtain rfl := List.mem_singleton.mp hx
       exact hw
   have hwl := hw.len
   refine seq_cut2 fun K2 hK2 => ?_
   walk_at "rd"
   rw [hq]
   dsimp only
   have e0 : R.map tupT ++ [T.tup (ws.map T.int)] = (R ++ [ws]).map tupT := by rw [List.map_append]; rfl
   rw [e0]
   refine ⟨trivial, line_len (by rw [List.length_map]; lia), ?_⟩
   rw [hK2]
   clear hK2
   refine seq_cut fun K3 hK3 => ?_
   have hk : ∀ (R' : List (List Int)) (a b : Option T), R'.length = R.length + 1 → (∀ r ∈ R', IsP n r) → K3 [some (.adr q), some (.tup (ws.map .int)), a, b] (updM M q (.lst (R'.map tupT))) := by
     intro R' a b hl hR'
     rw [hK3]
     clear hK3
     obtain ⟨A, y, rfl⟩ : ∃ A y, R' = A ++ [y] := by
       rcases List.eq_nil_or_concat R' with e | ⟨A, y, e⟩
       · rw [e] at hl; cases hl
       · exact ⟨A, y, by rw [e, List.concat_eq_append]⟩
     walk_at "rd"
     have e1 : (A ++ [y]).map tupT = A.map tupT ++ [tupT y] := by rw [List.map_append]; rfl
     rw [e1, atI_last, ← e1]
     dsimp only
     refine ⟨by lia, by lia, ?_⟩
     refine ⟨by unfold tupT; rw [pureT_tup, pureTs_ints], by rw [rangeT_range0, pureT_tup, pureTs_ints], by unfold tupT; rw [depT_tup, depTs_ints]; decide, ite2 (fun c => ?_) (fun c => ?_)⟩
     · rw [updM_same]
       dsimp only
       refine ⟨trivial, ?_⟩
       rw [e1, List.length_append, List.length_singleton, Nat.add_sub_cancel, List.getElem?_append_right (Nat.le_refl _), Nat.sub_self, List.dropLast_concat]
       dsimp only [List.getElem?_cons_zero]
       rw [updM_updM]
       rw [List.length_append, List.length_singleton] at hl
       exact rt3_here (h A (by lia) fun r hr => hR' r (List.mem_append_left _ hr))
     · exact rt3_here (h (A ++ [y]) (by lia) hR')
   refine while_cut fun C hC => ?_
   unfold tWhile3
   refine ⟨fun m ρ M' => ∃ (R' : List (List Int)) (a : Nat) (b : Option T), ρ = [some (.adr q), some (.tup (ws.map .int)), some (.int (a : Nat)), b] ∧ M' = updM M q (.lst (R'.map tupT)) ∧ R'.length = R.length + 1 ∧ (∀ r ∈ R', IsP n r) ∧ a < R'.length ∧ m = a, ⟨_, R ++ [ws], R.length, none, ?_, rfl, by rw [List.length_append]; rfl, hP0, by rw [List.length_append]; exact Nat.lt_succ_self _, rfl⟩, ?_⟩
   · rw [List.length_map]
     show _ = [_, _, some (T.int ((R.length : Nat) : Int)), none]
     rw [show ((R.length + (0 + 1) : Nat) : Int) - 1 = (R.length : Nat) by lia]
   rintro m ρ M' ⟨R', a, b, rfl, rfl, hl, hR', ha, rfl⟩
   walk_at "rd"
   refine ite2 (fun hlt => ?_) (fun hge => hk R' _ _ hl hR')
   rw [hC]
   clear hC
   refine seq_cut fun K4 hK4 => ?_
   walk_at "rd"
   have g1 := tupT_at (R := R') (i := m - 1) (by lia)
   rw [show ((m - 1 : Nat) : Int) = (m : Int) - 1 by lia] at g1
   have g2 := tupT_at (R := R') (i := m) ha
   rw [g1, g2]
   dsimp only
   refine ⟨n, _, _, rfl, rfl, h1, h6, hR' _ (getD_mem (by lia)), hR' _ (getD_mem ha), fun us' vs' hu' hv' => ?_⟩
   rw [hK4]
   clear hK4
   refine seq_cut fun K5 hK5 => ?_
   walk_at "rd"
   rw [g2]
   dsimp only
   refine ⟨by unfold tupT; rw [pureT_tup, pureTs_ints], by unfold tupT; rw [pureT_tup, pureTs_ints], by unfold tupT; rw [depT_tup, depTs_ints]; decide, ite2 (fun c => hk R' _ _ hl hR') (fun c => ?_)⟩
   rw [hK5]
   clear hK5
   walk_at "rd"
   rw [ixN_nat (by lia) (by lia), show ((m : Int) - 1).toNat = m - 1 by lia]
   dsimp only
   rw [List.length_set, List.length_map, ixN_nat (by lia) (by lia), Int.toNat_natCast]
   dsimp only
   have e9 : ((R'.map tupT).set (m - 1) (tupT us')).set m (tupT vs') = ((R'.set (m - 1) us').set m vs').map tupT := by rw [List.map_set, List.map_set]
   rw [e9]
   refine ⟨m - 1, by lia, (R'.set (m - 1) us').set m vs', m - 1, some (.tup [tupT us', tupT vs']), ?_, rfl, by rw [List.length_set, List.length_set]; exact hl, ?_, by rw [List.length_set, List.length_set]; lia, rfl⟩
   · rw [show (m : Int) - 1 = ((m - 1 : Nat) : Int) by lia]
   · intro r hr
     rcases List.mem_or_eq_of_mem_set hr with hr | rfl
     · rcases List.mem_or_eq_of_mem_set hr with hr | rfl
       · exact hR' r hr
       · exact hu'
     · exact hv'
 · exact h.elim
noncomputable def sp_form_by_letters : Sp3 := fun ts M Q => match ts with
 | [.int n, .tup w] => ∃ ws : List Int, w = ws.map .int ∧ 1 ≤ n ∧ n ≤ 6 ∧ ws.length ≤ 500 ∧ WordOK n ws ∧ ∀ (pw : Int) (R : List (List Int)) , Q (.tup [.int pw, .tup (R.map tupT)]) M
 | _ => False
theorem ok_form_by_letters {P : Program} {w : World} {K : PySem.W.Frag} {mg : Str → Option Value} {base : Heap} {f : Addr} {fd : FuncData} {n : Nat} {P_ z1 z2 z3 z4 z5 z6 : Addr}  (F : Fun K "form_by_letters" "form_by_letters" s_form_by_letters f fd) (hm : mg "form_by_letters" = some (.ref f)) (hb : Binds K fd ["strands", "word"] []) (Z : Zs K P_ z1 z2 z3 z4 z5 z6 mg) (D_order_for : Df P w K mg base n "order_for" ["strands", "letter"] sp_order_for) (D_flipped_order : Df P w K mg base n "flipped_order" ["order"] sp_flipped_order) (D_put_behind : Df P w K mg base n "put_behind" ["orders", "order"] sp_put_behind) (D_half_twist : Df P w K mg base n "half_twist" ["strands"] sp_half_twist) : Df P w K mg base (n + 1) "form_by_letters" ["strands", "word"] sp_form_by_letters := by
 refine F.dfn hm hb sc_form_by_letters (by intro ts M Q h; unfold sp_form_by_letters at h; first | (split at h <;> first | rfl | exact h.elim) | (obtain ⟨_, _, _, _, _, rfl, _⟩ := h; rfl) | (obtain ⟨_, _, _, _, rfl, _⟩ := h; rfl) | (obtain ⟨_, _, _, rfl, _⟩ := h; rfl) | (obtain ⟨_, _, rfl, _⟩ := h; rfl) | (obtain ⟨_, rfl, _⟩ := h; rfl)) ⟨_, fun cdv A outer s H E hr => (ss_cons (s_set (i := 2) (h_callB call3_len Z.b_len PySem.boot_len (a_cons (h_comp rfl (i_seq (hv 1)) (blk_scope (outer := defScope s_form_by_letters) (N := ["strands", "word", "still_to_pass", "power", "orders", "letter", "order", "twists"]) (N' := ["letter"]) (ix := [none]) (by decide +kernel) rfl rfl) bt_name (fun _ _ _ _ _ => pg_name (i := 0) (show List.Nodup (["letter"] : List Str) by decide +kernel) rfl (Or.inl rfl) (Or.inr rfl)) (fun _ _ _ _ _ => ts_one (h_tcmp op3_lt (hv 0) h_int (nomark _))) (fun _ _ _ _ _ => (hv 0))) a_nil)) sc_form_by_letters.nd) (ss_cons (s_set (i := 3) (h_un un3_neg (hv 2)) sc_form_by_letters.nd) (ss_cons (s_set (i := 4) (h_lst a_nil) sc_form_by_letters.nd) (ss_cons (s_for PassesOwn.never rfl (i_seq (hv 1)) (g_name (i := 5) sc_form_by_letters.nd) (ss_cons (s_if (h_tcmp op3_lt (hv 5) h_int (nomark _)) (ss_one (s_augI (i := 2) ip_sub h_int sc_form_by_letters.nd)) ss_nil) (ss_cons (s_set (i := 6) (h_call D_order_for hr (a_cons (hv 0) (a_cons (hv 5) a_nil))) sc_form_by_letters.nd) (ss_cons (s_if (h_tcmp (op3_eq hr.units) (h_bin op3_mod (hv 2) h_int) h_int (nomark _)) (ss_one (s_set (i := 6) (h_call D_flipped_order hr (a_cons (hv 6) a_nil)) sc_form_by_letters.nd)) ss_nil) (ss_one (s_expr (h_call D_put_behind hr (a_cons (hv 4) (a_cons (hv 6) a_nil))))))))) (ss_cons (s_set (i := 7) (h_m_countU hr.units (hv 4) (a_cons (h_call D_half_twist hr (a_cons (hv 0) a_nil)) a_nil)) sc_form_by_letters.nd) (ss_one (s_ret (h_tup (a_cons (h_bin op3_add (hv 3) (hv 7)) (a_cons (h_callT call3_tuple Z.b_tuple PyProof.Rows.boot_tuple (a_cons (h_slice (hv 4) (o_some (hv 7)) o_none) a_nil)) a_nil)))))))))), fun ts M Q h => ?_⟩
 unfold sp_form_by_letters at h
 split at h
 · rename_i n w
   obtain ⟨ws, rfl, h1, h6, hl, hw, h⟩ := h
   refine seq_cut fun K1 hK1 => ?_
   walk_at "rd"
   refine ⟨fun i ys M' => M' = M ∧ ys.length ≤ i, ⟨rfl, Nat.le_refl _⟩, fun _ _ _ _ => trivial, line_len (by lia), ?_, ?_⟩
   · rintro i x ys M' hx ⟨eM, hy⟩
     obtain ⟨l, hl', rfl⟩ := get_map_int hx
     exact ite2 (fun _ => ⟨eM, by rw [List.length_append, List.length_singleton]; lia⟩) (fun _ => ⟨eM, by lia⟩)
   · rintro ys M' ⟨eM, hy⟩ p hp
     rw [eM] at hp ⊢
     rw [hK1]
     clear hK1
     have hS0 : Sub M (updM M p (.lst ys)) := Sub.new hp
     generalize updM M p (.lst ys) = M1 at hS0 ⊢
     refine seq_cut3 fun K3 hK3 => ?_
     refine seq_cut2 fun K2 hK2 => ?_
     walk_at "rd"
     intro q hq
     have hqM := none_of hS0 hq
     have hS1 := hS0.newr hq (o := MO.lst [])
     have hq1 : updM M1 q (.lst []) q = some (.lst (([] : List (List Int)).map tupT)) := updM_same
     generalize updM M1 q (.lst []) = M2 at hS1 hq1 ⊢
     rw [hK2]
     clear hK2
     refine for_cut fun C hC => ?_
     unfold tFor3
     walk_at "rd"
     refine ⟨fun i ρ M' => ∃ (R : List (List Int)) (s pw : Int) (a b : Option T), ρ = [some (.int n), some (.tup (ws.map .int)), some (.int s), some (.int pw), some (.adr q), a, b, none] ∧ M' q = some (.lst (R.map tupT)) ∧ R.length ≤ i ∧ (∀ r ∈ R, IsP n r) ∧ Sub M M', ⟨[], _, _, none, none, rfl, hq1, Nat.le_refl _, (fun r hr => by cases hr), hS1⟩, fun _ _ _ _ => trivial, ?_, ?_⟩
     · rintro i x ρ M' hx ⟨R, s, pw, a, b, rfl, hq', hRl, hR, hS⟩
       obtain ⟨l, hl', rfl⟩ := get_map_int hx
       have hi := (List.getElem?_eq_some_iff.mp hl').1
       rw [hC]
       clear hC
       refine seq_cut fun K4 hK4 => ?_
       have hk4 : ∀ s : Int, K4 [some (.int n), some (.tup (ws.map .int)), some (.int s), some (.int pw), some (.adr q), some (.int l), b, none] M' := by
         intro s
         rw [hK4]
         clear hK4
         refine seq_cut fun K5 hK5 => ?_
         walk_at "rd"
         refine ⟨h1, h6, hw l (List.mem_of_getElem? hl'), fun o ho => ?_⟩
         rw [hK5]
         clear hK5
         refine seq_cut fun K6 hK6 => ?_
         have hk6 : ∀ o, IsP n o → K6 [some (.int n), some (.tup (ws.map .int)), some (.int s), some (.int pw), some (.adr q), some (.int l), some (.tup (o.map .int)), none] M' := by
           intro o ho
           rw [hK6]
           clear hK6
           walk_at "rd"
           refine ⟨n, R, o, hq', rfl, h1, h6, by lia, ho, hR, fun R' hl2 hR' => ?_⟩
           exact ⟨R', s, pw, _, _, rfl, updM_same, by lia, hR', hS.updF hqM⟩
         walk_at "rd"
         refine ⟨by decide, ite2 (fun _ => ?_) (fun _ => hk6 o ho)⟩
         exact ⟨n, o, rfl, by lia, h6, ho, hk6 _ (fl_isP ho)⟩
       walk_at "rd"
       exact ite2 (fun _ => hk4 _) (fun _ => hk4 s)
     · rintro ρ M' ⟨R, s, pw, a, b, rfl, hq', hRl, hR, hS⟩
       rw [hK3]
       clear hK3
       walk_at "rd"
       rw [hq']
       refine ⟨trivial, by lia, h6, ?_⟩
       dsimp only
       rw [hq']
       refine ⟨R, _, rfl, rfl, ?_⟩
       dsimp only
       intro r2 hr2
       rw [cutT_from' _ _ (by lia), ← List.map_drop]
       exact ⟨by decide, rt3_sub (h _ _) (hS.newr hr2)⟩
 · exact h.elim
noncomputable def sp_form_of : Sp3X := fun ts M Q E => match ts with
 | [.tup [.int n, .tup w]] => ∃ ws : List Int, w = ws.map .int ∧ ws.length < 10000 ∧ (¬ PlOK n ws → E "NoPlait" M) ∧ (PlOK n ws → ∀ (pw : Int) (R : List (List Int)) , Q (.tup [.int pw, .tup (R.map tupT)]) M)
 | _ => False
theorem ok_form_of {P : Program} {w : World} {K : PySem.W.Frag} {mg : Str → Option Value} {base : Heap} {f : Addr} {fd : FuncData} {n : Nat} {P_ z1 z2 z3 z4 z5 z6 : Addr}  (F : Fun K "form_of" "form_of" s_form_of f fd) (hm : mg "form_of" = some (.ref f)) (hb : Binds K fd ["plait"] []) (Z : Zs K P_ z1 z2 z3 z4 z5 z6 mg) (D_looked : DfX P w K mg base n "looked" ["plait"] sp_looked) (D_form_by_letters : Df P w K mg base n "form_by_letters" ["strands", "word"] sp_form_by_letters) : DfX P w K mg base (n + 1) "form_of" ["plait"] sp_form_of := by
 refine F.dfnX hm hb sc_form_of (by intro ts M Q E h; unfold sp_form_of at h; first | (split at h <;> first | rfl | exact h.elim) | (obtain ⟨_, _, _, _, _, rfl, _⟩ := h; rfl) | (obtain ⟨_, _, _, _, rfl, _⟩ := h; rfl) | (obtain ⟨_, _, _, rfl, _⟩ := h; rfl) | (obtain ⟨_, _, rfl, _⟩ := h; rfl) | (obtain ⟨_, rfl, _⟩ := h; rfl)) ⟨_, fun cdv A outer s H E E3 hr acc accN => (ss_consX (s_exprX (h_callX acc rfl D_looked hr (a_cons (hv 0) a_nil))) (ss_oneX (HS.x (HS.n (s_ret (h_call D_form_by_letters hr (a_cons (h_ix (hv 0) h_int) (a_cons (h_ix (hv 0) h_int) a_nil)))))))), fun ts M Q E h => ?_⟩
 unfold sp_form_of at h
 split at h
 · rename_i n w
   obtain ⟨ws, rfl, hl, e0, h⟩ := h
   walk_at "rd"
   refine ⟨ws, rfl, hl, fun ok => ?_, fun c => ⟨M, Sub.refl, e0 c⟩⟩
   exact ⟨ws, rfl, ok.1, ok.2.1, by have := ok.2.2.1; lia, ok.2.2.2, fun pw R => rt3_here (h ok pw R)⟩
 · exact h.elim
noncomputable def sp_form_by : Sp3X := fun ts M Q E => match ts with
 | [.int n, .tup w] => ∃ ws : List Int, w = ws.map .int ∧ ws.length < 10000 ∧ ¬ (1 ≤ n ∧ n ≤ 6 ∧ ws.length ≤ 500 ∧ WordOK n ws) ∧ E "NoPlait" M
 | _ => False
theorem ok_form_by {P : Program} {w : World} {K : PySem.W.Frag} {mg : Str → Option Value} {base : Heap} {f : Addr} {fd : FuncData} {n : Nat} {P_ z1 z2 z3 z4 z5 z6 : Addr}  (F : Fun K "form_by" "form_by" s_form_by f fd) (hm : mg "form_by" = some (.ref f)) (hb : Binds K fd ["strands", "word"] []) (Z : Zs K P_ z1 z2 z3 z4 z5 z6 mg) (D_is_word : Df P w K mg base n "is_word" ["strands", "word", "most"] sp_is_word) (D_form_by_letters : Df P w K mg base n "form_by_letters" ["strands", "word"] sp_form_by_letters) : DfX P w K mg base (n + 1) "form_by" ["strands", "word"] sp_form_by := by
 obtain ⟨tk_MOST_LETTERS_IN_FORM, c_MOST_LETTERS_IN_FORM⟩ := Z.c_MOST_LETTERS_IN_FORM
 refine F.dfnX hm hb sc_form_by (by intro ts M Q E h; unfold sp_form_by at h; first | (split at h <;> first | rfl | exact h.elim) | (obtain ⟨_, _, _, _, _, rfl, _⟩ := h; rfl) | (obtain ⟨_, _, _, _, rfl, _⟩ := h; rfl) | (obtain ⟨_, _, _, rfl, _⟩ := h; rfl) | (obtain ⟨_, _, rfl, _⟩ := h; rfl) | (obtain ⟨_, rfl, _⟩ := h; rfl)) ⟨_, fun cdv A outer s H E E3 hr acc accN => (ss_consX (s_ifX (HT.x (HT.n (h_not (h_truth (h_call D_is_word hr (a_cons (hv 0) (a_cons (hv 1) (a_cons (h_globI c_MOST_LETTERS_IN_FORM) a_nil)))))))) (ss_oneX (s_raiseX accN (Z.xs.cl (.head _)) h_str)) ss_nilX) (ss_oneX (HS.x (HS.n (s_ret (h_call D_form_by_letters hr (a_cons (hv 0) (a_cons (hv 1) a_nil)))))))), fun ts M Q E h => ?_⟩
 unfold sp_form_by at h
 split at h
 · rename_i n w
   obtain ⟨ws, rfl, hl, c, e0⟩ := h
   walk_at "rd"
   refine ⟨ws, rfl, hl, ?_⟩
   have e : isWd n ws 500 = false := Bool.eq_false_iff.mpr fun z => c (by
     unfold isWd at z
     rw [Bool.and_eq_true, Bool.and_eq_true, Bool.and_eq_true, decide_eq_true_eq, decide_eq_true_eq, decide_eq_true_eq, List.all_eq_true] at z
     exact ⟨z.1.1.1, z.1.1.2, by lia, fun l hl => isLet_iff.mp (z.2 l hl)⟩)
   rw [e]
   dsimp only
   rw [if_pos rfl]
   exact ⟨M, Sub.refl, e0⟩
 · exact h.elim
noncomputable def sp_same_form : Sp3X := fun ts M Q E => ∃ n w m v, ts = [.tup [.int n, .tup w], .tup [.int m, .tup v]] ∧ ∃ ws vs : List Int, w = ws.map .int ∧ v = vs.map .int ∧ ws.length < 10000 ∧ vs.length < 10000 ∧ (¬ PlOK n ws → E "NoPlait" M) ∧ (PlOK n ws → ¬ PlOK m vs → E "NoPlait" M) ∧ (PlOK n ws → PlOK m vs → n ≠ m → E "NoStep" M) ∧ (PlOK n ws → PlOK m vs → n = m → ∀ b, Q (.bl b) M)
theorem tupT_pure (R : List (List Int)) : pureTs (R.map tupT) = true := by
 induction R with
 | nil => rfl
 | cons r R ih => rw [List.map_cons, pureTs_cons, ih]; unfold tupT; rw [pureT_tup, pureTs_ints]; rfl
theorem tupT_dep (R : List (List Int)) : depTs (R.map tupT) ≤ 1 := by
 induction R with
 | nil => exact Nat.zero_le _
 | cons r R ih => rw [List.map_cons, depTs_cons]; unfold tupT at ih ⊢; rw [depT_tup, depTs_ints]; lia
theorem ok_same_form {P : Program} {w : World} {K : PySem.W.Frag} {mg : Str → Option Value} {base : Heap} {f : Addr} {fd : FuncData} {n : Nat} {P_ z1 z2 z3 z4 z5 z6 : Addr}  (F : Fun K "same_form" "same_form" s_same_form f fd) (hm : mg "same_form" = some (.ref f)) (hb : Binds K fd ["one", "other"] []) (Z : Zs K P_ z1 z2 z3 z4 z5 z6 mg) (D_looked_both : DfX P w K mg base n "looked_both" ["one", "other"] sp_looked_both) (D_form_of : DfX P w K mg base n "form_of" ["plait"] sp_form_of) : DfX P w K mg base (n + 1) "same_form" ["one", "other"] sp_same_form := by
 refine F.dfnX hm hb sc_same_form (by intro ts M Q E h; unfold sp_same_form at h; first | (split at h <;> first | rfl | exact h.elim) | (obtain ⟨_, _, _, _, _, rfl, _⟩ := h; rfl) | (obtain ⟨_, _, _, _, rfl, _⟩ := h; rfl) | (obtain ⟨_, _, _, rfl, _⟩ := h; rfl) | (obtain ⟨_, _, rfl, _⟩ := h; rfl) | (obtain ⟨_, rfl, _⟩ := h; rfl)) ⟨_, fun cdv A outer s H E E3 hr acc accN => (ss_consX (s_exprX (h_callX acc rfl D_looked_both hr (a_cons (hv 0) (a_cons (hv 1) a_nil)))) (ss_oneX (s_retX (h_cmpX (op3_eq hr.units) (h_callX acc rfl D_form_of hr (a_cons (hv 0) a_nil)) (h_callX acc rfl D_form_of hr (a_cons (hv 1) a_nil)) (nomark _))))), fun ts M Q E h => ?_⟩
 unfold sp_same_form at h
 · obtain ⟨n, w, m, v, rfl, ws, vs, rfl, rfl, h1, h2, e0, e1, e2, h⟩ := h
   walk_at "rd"
   refine ⟨n, _, m, _, rfl, ws, vs, rfl, rfl, h1, h2, fun c => ⟨M, Sub.refl, ?_⟩, fun a b c => ⟨M, Sub.refl, e2 a b c⟩, fun a b c => ?_⟩
   · by_cases d : PlOK n ws
     · rcases c with c | c
       · exact absurd d c
       · exact e1 d c
     · exact e0 d
   · refine ⟨ws, rfl, h1, fun z => absurd a z, fun _ pw R => ⟨vs, rfl, h2, fun z => absurd b z, fun _ pw' R' => ?_⟩⟩
     have p1 : ∀ (pw : Int) (R : List (List Int)), pureT (T.tup [T.int pw, T.tup (R.map tupT)]) = true := fun pw R => by
       rw [pureT_tup, pureTs_cons, pureTs_cons, pureT_tup, tupT_pure]; rfl
     have d1 : ∀ (pw : Int) (R : List (List Int)), depT (T.tup [T.int pw, T.tup (R.map tupT)]) ≤ 30 := fun pw R => by
       rw [depT_tup, depTs_cons, depTs_cons, depT_tup]
       have := tupT_dep R
       show max 0 (max (depTs (R.map tupT) + 1) 0) + 1 ≤ 30
       lia
     exact ⟨p1 _ _, p1 _ _, d1 _ _, rt3_here (h a b c _)⟩
noncomputable def sp_can_stand : Sp3 := fun ts M Q => match ts with
 | [.int n, .tup r] => ∃ ws : List Int, r = ws.map .int ∧ 0 ≤ n ∧ n ≤ 6 ∧ ws.length < 60 ∧ Q (.bl (stB n ws)) M
 | _ => False
theorem ok_can_stand {P : Program} {w : World} {K : PySem.W.Frag} {mg : Str → Option Value} {base : Heap} {f : Addr} {fd : FuncData} {n : Nat} {P_ z1 z2 z3 z4 z5 z6 : Addr}  (F : Fun K "can_stand" "can_stand" s_can_stand f fd) (hm : mg "can_stand" = some (.ref f)) (hb : Binds K fd ["strands", "order"] []) (Z : Zs K P_ z1 z2 z3 z4 z5 z6 mg) (D_plain_order : Df P w K mg base n "plain_order" ["strands"] sp_plain_order) (D_half_twist : Df P w K mg base n "half_twist" ["strands"] sp_half_twist) : Df P w K mg base (n + 1) "can_stand" ["strands", "order"] sp_can_stand := by
 refine F.dfn hm hb sc_can_stand (by intro ts M Q h; unfold sp_can_stand at h; first | (split at h <;> first | rfl | exact h.elim) | (obtain ⟨_, _, _, _, _, rfl, _⟩ := h; rfl) | (obtain ⟨_, _, _, _, rfl, _⟩ := h; rfl) | (obtain ⟨_, _, _, rfl, _⟩ := h; rfl) | (obtain ⟨_, _, rfl, _⟩ := h; rfl) | (obtain ⟨_, rfl, _⟩ := h; rfl)) ⟨_, fun cdv A outer s H E hr => (ss_cons (s_if (h_tcmp (op3_ne hr.units) (h_callB call3_sorted Z.b_sorted PyProof.Rows.boot_sorted (a_cons (hv 1) a_nil)) (h_listRange1 Z.b_list Z.b_range (a_cons (hv 0) a_nil)) (nomark _)) (ss_one (s_ret h_bl)) ss_nil) (ss_one (s_ret (h_and (h_cmp (op3_ne hr.units) (hv 1) (h_call D_plain_order hr (a_cons (hv 0) a_nil)) (nomark _)) (h_one (h_cmp (op3_ne hr.units) (hv 1) (h_call D_half_twist hr (a_cons (hv 0) a_nil)) (nomark _))))))), fun ts M Q h => ?_⟩
 unfold sp_can_stand at h
 split at h
 · rename_i n r
   obtain ⟨ws, rfl, h0, h1, hl, h⟩ := h
   refine seq_cut fun K2 hK2 => ?_
   walk_at "rd"
   refine ⟨ws, rfl, by lia, fun ms hp hs p1 hp1 => ⟨⟨by lia, by lia⟩, fun p2 hp2 => ?_⟩⟩
   have n1 : p1 ≠ p2 := fun z => by rw [← z, updM_same] at hp2; cases hp2
   have hS : Sub M (updM (updM M p1 (MO.lst (List.map T.int ms))) p2 (MO.lst (rangeT 0 n.toNat))) := (Sub.new hp1).newr hp2
   rw [updM_ne n1, updM_same]
   dsimp only
   generalize updM (updM M p1 (MO.lst (List.map T.int ms))) p2 (MO.lst (rangeT 0 n.toNat)) = M1 at hS ⊢
   rw [rangeT_range0, eqTs_ints, sorted_is hp hs]
   refine ⟨pureTs_ints _, pureTs_ints _, by rw [depTs_ints]; lia, ?_⟩
   unfold stB at h
   by_cases c : ws.Perm (range0 n)
   · rw [decide_eq_true c] at h ⊢
     rw [if_neg (by decide), hK2]
     clear hK2
     walk_at "rd"
     refine ⟨h0, h1, ?_⟩
     dsimp only
     rw [rangeT_range0, eqT_tup, eqTs_ints]
     refine ⟨by rw [pureT_tup, pureTs_ints], by decide, ?_⟩
     by_cases c1 : ws = range0 n
     · rw [decide_eq_true c1, if_neg (by decide)]
       rw [show decide (ws ≠ range0 n) = false from decide_eq_false (fun z => z c1)] at h
       exact rt3_sub h hS
     · rw [decide_eq_false c1, if_pos rfl]
       rw [show decide (ws ≠ range0 n) = true from decide_eq_true c1] at h
       refine ⟨h0, h1, ?_⟩
       dsimp only
       rw [eqT_tup, eqTs_ints]
       refine ⟨by rw [pureT_tup, pureTs_ints], by decide, ?_⟩
       have e : (!decide (ws = (range0 n).reverse)) = decide (ws ≠ (range0 n).reverse) := by rw [decide_not]
       rw [e]
       exact rt3_sub h hS
   · rw [decide_eq_false c] at h ⊢
     rw [if_pos rfl]
     exact rt3_sub h hS
 · exact h.elim
noncomputable def sp_can_stand_behind : Sp3 := fun ts M Q => match ts with
 | [.tup o, .tup p] => ∃ (n : Int) (us vs : List Int), o = us.map .int ∧ p = vs.map .int ∧ 1 ≤ n ∧ n ≤ 6 ∧ IsP n us ∧ IsP n vs ∧ Q (.bl (decide (mvL us vs = 0))) M
 | _ => False
theorem ok_can_stand_behind {P : Program} {w : World} {K : PySem.W.Frag} {mg : Str → Option Value} {base : Heap} {f : Addr} {fd : FuncData} {n : Nat} {P_ z1 z2 z3 z4 z5 z6 : Addr}  (F : Fun K "can_stand_behind" "can_stand_behind" s_can_stand_behind f fd) (hm : mg "can_stand_behind" = some (.ref f)) (hb : Binds K fd ["order", "other"] []) (Z : Zs K P_ z1 z2 z3 z4 z5 z6 mg) (D_places_in : Df P w K mg base n "places_in" ["order"] sp_places_in) (D_can_begin : Df P w K mg base n "can_begin" ["order", "letter"] sp_can_begin) : Df P w K mg base (n + 1) "can_stand_behind" ["order", "other"] sp_can_stand_behind := by
 refine F.dfn hm hb sc_can_stand_behind (by intro ts M Q h; unfold sp_can_stand_behind at h; first | (split at h <;> first | rfl | exact h.elim) | (obtain ⟨_, _, _, _, _, rfl, _⟩ := h; rfl) | (obtain ⟨_, _, _, _, rfl, _⟩ := h; rfl) | (obtain ⟨_, _, _, rfl, _⟩ := h; rfl) | (obtain ⟨_, _, rfl, _⟩ := h; rfl) | (obtain ⟨_, rfl, _⟩ := h; rfl)) ⟨_, fun cdv A outer s H E hr => (ss_cons (s_set (i := 2) (h_call D_places_in hr (a_cons (hv 0) a_nil)) sc_can_stand_behind.nd) (ss_one (s_ret (h_callB (call3_all rfl) Z.b_all PyProof.Rows.boot_all (a_cons (h_comp rfl (i_range2 Z.b_range (a_cons h_int (a_cons (h_callB call3_len Z.b_len PySem.boot_len (a_cons (hv 0) a_nil)) a_nil))) (blk_scope (outer := defScope s_can_stand_behind) (N := ["order", "other", "ends"]) (N' := ["letter", "ends", "other"]) (ix := [none, some 2, some 1]) (by decide +kernel) rfl rfl) bt_name (fun _ _ _ _ _ => pg_name (i := 0) (show List.Nodup (["letter", "ends", "other"] : List Str) by decide +kernel) rfl (Or.inl rfl) (Or.inr rfl)) (fun _ _ _ _ _ => ts_one (h_truth (h_call D_can_begin hr (a_cons (hv 2) (a_cons (hv 0) a_nil))))) (fun _ _ _ _ _ => (h_call D_can_begin hr (a_cons (hv 1) (a_cons (hv 0) a_nil))))) a_nil))))), fun ts M Q h => ?_⟩
 unfold sp_can_stand_behind at h
 split at h
 · rename_i o p
   obtain ⟨n, us, vs, rfl, rfl, n0, n1, hu, hv, h⟩ := h
   refine seq_cut fun K2 hK2 => ?_
   walk_at "rd"
   have l1 := hu.len
   have l2 := hv.len
   refine ⟨us, rfl, by lia, fun s s0 s1 => hu.mem.mpr ⟨s0, by lia⟩, ?_⟩
   rw [hK2]
   clear hK2
   walk_at "rd"
   have e : (rangeT 1 ((us.length : Int) - 1).toNat).length = us.length - 1 := by rw [rangeT_length]; lia
   refine ⟨⟨by decide, by decide, by lia, by lia⟩, fun i ys M' => ys = (bsS us vs i).map T.bl ∧ M' = M, ⟨rfl, rfl⟩, fun _ _ _ _ => trivial, by rw [e]; exact line_len (by lia), ?_, ?_⟩
   · rintro i x ys M' hx ⟨rfl, rfl⟩
     have hi : i < us.length - 1 ∧ x = .int (1 + (i : Nat)) := by
       have hl := (List.getElem?_eq_some_iff.mp hx).1
       rw [e] at hl
       unfold rangeT at hx
       rw [List.getElem?_map, List.getElem?_range (by lia)] at hx
       exact ⟨hl, (Option.some.inj hx).symm⟩
     obtain ⟨hi, rfl⟩ := hi
     have e2 : (1 : Int) + (i : Nat) = ((i + 1 : Nat) : Int) := by lia
     rw [e2]
     have hs := bsS_succ us vs i
     refine ⟨vs, rfl, by lia, by lia, ?_⟩
     dsimp only
     refine ite2 (fun c => ?_) (fun c => ?_)
     · replace c : dsc vs i = true := c
       rw [if_pos c] at hs
       refine ⟨_, rfl, by lia, by rw [List.length_map, range0_length]; lia, ?_⟩
       rw [ends_at (by lia) (by lia), ends_at (by lia) (by lia)]
       refine ⟨?_, rfl⟩
       rw [hs, List.map_append]
       have e3 : upB us i = decide (((us.idxOf (((i + 1 : Nat) : Int) - 1) : Nat) : Int) > ((us.idxOf ((i + 1 : Nat) : Int) : Nat) : Int)) := by
         unfold upB
         rw [Bool.eq_iff_iff, decide_eq_true_eq, decide_eq_true_eq]
         lia
       rw [e3]
       rfl
     · replace c : ¬ dsc vs i = true := c
       rw [if_neg c] at hs
       exact ⟨by rw [hs, List.append_nil], rfl⟩
   · rintro ys M' ⟨rfl, rfl⟩ p hp
     rw [e, bools_map]
     dsimp only
     rw [bsS_all hu]
     exact rt3_sub (M0 := M') h (Sub.new hp)
 · exact h.elim
noncomputable def sp_is_form : Sp3 := fun ts M Q => match ts with
 | [.int n, .tup [.int pw, .tup rows]] => ∃ R : List (List Int), rows = R.map tupT ∧ R.length < 60 ∧ (∀ r ∈ R, r.length < 60) ∧ Q (.bl (isFm n pw R)) M
 | _ => False
theorem ok_is_form {P : Program} {w : World} {K : PySem.W.Frag} {mg : Str → Option Value} {base : Heap} {f : Addr} {fd : FuncData} {n : Nat} {P_ z1 z2 z3 z4 z5 z6 : Addr}  (F : Fun K "is_form" "is_form" s_is_form f fd) (hm : mg "is_form" = some (.ref f)) (hb : Binds K fd ["strands", "form"] []) (Z : Zs K P_ z1 z2 z3 z4 z5 z6 mg) (D_can_stand : Df P w K mg base n "can_stand" ["strands", "order"] sp_can_stand) (D_can_stand_behind : Df P w K mg base n "can_stand_behind" ["order", "other"] sp_can_stand_behind) : Df P w K mg base (n + 1) "is_form" ["strands", "form"] sp_is_form := by
 obtain ⟨tk_MOST_STRANDS, c_MOST_STRANDS⟩ := Z.c_MOST_STRANDS
 refine F.dfn hm hb sc_is_form (by intro ts M Q h; unfold sp_is_form at h; first | (split at h <;> first | rfl | exact h.elim) | (obtain ⟨_, _, _, _, _, rfl, _⟩ := h; rfl) | (obtain ⟨_, _, _, _, rfl, _⟩ := h; rfl) | (obtain ⟨_, _, _, rfl, _⟩ := h; rfl) | (obtain ⟨_, _, rfl, _⟩ := h; rfl) | (obtain ⟨_, rfl, _⟩ := h; rfl)) ⟨_, fun cdv A outer s H E hr => (ss_cons (s_set (i := 2) (h_ix (hv 1) h_int) sc_is_form.nd) (ss_cons (s_if (HW.ht (w_or (h_not (h_tchain op3_le op3_le h_int (hv 0) (h_globI c_MOST_STRANDS))) (w_or1 (HW.ht (w_and (h_tcmp (op3_eq hr.units) (hv 0) h_int (nomark _)) (w_and1 (h_tcmp (op3_ne hr.units) (h_ix (hv 1) h_int) h_int (nomark _)))))))) (ss_one (s_ret h_bl)) ss_nil) (ss_cons (s_if (h_not (h_truth (h_callB (call3_all rfl) Z.b_all PyProof.Rows.boot_all (a_cons (h_comp rfl (i_seq (hv 2)) (blk_scope (outer := defScope s_is_form) (N := ["strands", "form", "orders"]) (N' := ["order", "strands"]) (ix := [none, some 0]) (by decide +kernel) rfl rfl) bt_name (fun _ _ _ _ _ => pg_name (i := 0) (show List.Nodup (["order", "strands"] : List Str) by decide +kernel) rfl (Or.inl rfl) (Or.inr rfl)) (fun _ _ _ _ _ => ts_nil) (fun _ _ _ _ _ => (h_call D_can_stand hr (a_cons (hv 1) (a_cons (hv 0) a_nil))))) a_nil)))) (ss_one (s_ret h_bl)) ss_nil) (ss_one (s_ret (h_callB (call3_all rfl) Z.b_all PyProof.Rows.boot_all (a_cons (h_comp rfl (i_range2 Z.b_range (a_cons h_int (a_cons (h_callB call3_len Z.b_len PySem.boot_len (a_cons (hv 2) a_nil)) a_nil))) (blk_scope (outer := defScope s_is_form) (N := ["strands", "form", "orders"]) (N' := ["at", "orders"]) (ix := [none, some 2]) (by decide +kernel) rfl rfl) bt_name (fun _ _ _ _ _ => pg_name (i := 0) (show List.Nodup (["at", "orders"] : List Str) by decide +kernel) rfl (Or.inl rfl) (Or.inr rfl)) (fun _ _ _ _ _ => ts_nil) (fun _ _ _ _ _ => (h_call D_can_stand_behind hr (a_cons (h_ix (hv 1) (h_bin op3_sub (hv 0) h_int)) (a_cons (h_ix (hv 1) (hv 0)) a_nil))))) a_nil))))))), fun ts M Q h => ?_⟩
 unfold sp_is_form at h
 split at h
 · rename_i n pw rows
   obtain ⟨R, rfl, hl, hr, h⟩ := h
   refine seq_cut2 fun K2 hK2 => ?_
   walk_at "rd"
   unfold isFm at h
   have hbad : (¬ (1 ≤ n ∧ n ≤ 6) ∨ (n = 1 ∧ pw ≠ 0)) → rt3 M Q (T.bl false) M := fun z => by
     rw [if_pos z] at h
     exact rt3_here h
   have hk : ¬ (¬ (1 ≤ n ∧ n ≤ 6) ∨ (n = 1 ∧ pw ≠ 0)) → K2 [some (T.int n), some (T.tup [T.int pw, T.tup (List.map tupT R)]), some (T.tup (List.map tupT R))] M := by
     intro z
     rw [if_neg z] at h
     have hn : 1 ≤ n ∧ n ≤ 6 := by lia
     rw [hK2]
     clear hK2 hbad
     refine seq_cut fun K3 hK3 => ?_
     walk_at "rd"
     refine ⟨fun i ys M' => ys = ((R.take i).map (stB n)).map T.bl ∧ M' = M, ⟨rfl, rfl⟩, fun _ _ _ _ => trivial, line_len (by lia), ?_, ?_⟩
     · rintro i x ys M' hx ⟨rfl, rfl⟩
       obtain ⟨r, hr', rfl⟩ := get_tupT hx
       refine ⟨r, rfl, by lia, hn.2, hr r (List.mem_of_getElem? hr'), ?_, rfl⟩
       rw [← take_succ_map (stB n) hr', List.map_append]; rfl
     · rintro ys M' ⟨rfl, rfl⟩ p hp
       rw [List.take_length, bools_map]
       dsimp only
       have ea : (R.map (stB n)).all id = R.all (stB n) := by rw [List.all_map]; rfl
       rw [ea]
       have hS := Sub.new hp (o := MO.lst ((R.map (stB n)).map T.bl))
       generalize updM M' p (MO.lst ((R.map (stB n)).map T.bl)) = M1 at hS ⊢
       by_cases c : R.all (stB n) = true
       · rw [if_pos c] at h
         rw [c, if_neg (by decide), hK3]
         clear hK3
         have hP : ∀ r ∈ R, IsP n r := fun r hm => stB_isP (List.all_eq_true.mp c r hm)
         walk_at "rd"
         have e : (rangeT 1 ((R.length : Int) - 1).toNat).length = R.length - 1 := by rw [rangeT_length]; lia
         refine ⟨⟨by decide, by decide, by lia, by lia⟩, fun i ys M2 => ys = ((List.range i).map fun i => decide (mvL (R.getD i []) (R.getD (i + 1) []) = 0)).map T.bl ∧ M2 = M1, ⟨rfl, rfl⟩, fun _ _ _ _ => trivial, by rw [e]; exact line_len (by lia), ?_, ?_⟩
         · rintro i x ys M2 hx ⟨rfl, rfl⟩
           have hi : i < R.length - 1 ∧ x = .int (1 + (i : Nat)) := by
             have hl := (List.getElem?_eq_some_iff.mp hx).1
             rw [e] at hl
             unfold rangeT at hx
             rw [List.getElem?_map, List.getElem?_range (by lia)] at hx
             exact ⟨hl, (Option.some.inj hx).symm⟩
           obtain ⟨hi, rfl⟩ := hi
           dsimp only
           have e1 : (1 : Int) + (i : Nat) - 1 = (i : Nat) := by lia
           have e2 : (1 : Int) + (i : Nat) = ((i + 1 : Nat) : Int) := by lia
           rw [e1, e2, tupT_at (by lia), tupT_at (by lia)]
           dsimp only
           refine ⟨n, _, _, rfl, rfl, hn.1, hn.2, hP _ (getD_mem (by lia)), hP _ (getD_mem (by lia)), ?_, rfl⟩
           rw [range_snoc_map, List.map_append]
           rfl
         · rintro ys M2 ⟨rfl, rfl⟩ p2 hp2
           rw [e, bools_map]
           dsimp only
           rw [stillB_is]
           exact rt3_sub h (hS.newr hp2)
       · rw [if_neg c] at h
         rw [Bool.eq_false_iff.mpr c, if_pos rfl]
         exact rt3_sub h hS
   clear hK2
   exact ite2 (fun c1 => ite2 (fun c2 => hbad (by lia)) (fun c2 => ite2 (fun c3 => ite2 (fun c4 => hbad (by lia)) (fun c4 => hk (by lia))) (fun c3 => hk (by lia)))) (fun c1 => hbad (by lia))
 · exact h.elim
noncomputable def sp_word_of : Sp3X := fun ts M Q E => match ts with
 | [.int n, .tup [.int pw, .tup rows]] => ∃ R : List (List Int), rows = R.map tupT ∧ R.length < 60 ∧ (∀ r ∈ R, r.length < 60) ∧ isFm n pw R = false ∧ E "NoPlait" M
 | _ => False
theorem ok_word_of {P : Program} {w : World} {K : PySem.W.Frag} {mg : Str → Option Value} {base : Heap} {f : Addr} {fd : FuncData} {n : Nat} {P_ z1 z2 z3 z4 z5 z6 : Addr}  (F : Fun K "word_of" "word_of" s_word_of f fd) (hm : mg "word_of" = some (.ref f)) (hb : Binds K fd ["strands", "form"] []) (Z : Zs K P_ z1 z2 z3 z4 z5 z6 mg) (D_is_form : Df P w K mg base n "is_form" ["strands", "form"] sp_is_form) (D_letters_in : Df P w K mg base n "letters_in" ["order"] sp_letters_in) (D_half_twist : Df P w K mg base n "half_twist" ["strands"] sp_half_twist) (D_contrary : Df P w K mg base n "contrary" ["word"] sp_contrary) : DfX P w K mg base (n + 1) "word_of" ["strands", "form"] sp_word_of := by
 refine F.dfnX hm hb sc_word_of (by intro ts M Q E h; unfold sp_word_of at h; first | (split at h <;> first | rfl | exact h.elim) | (obtain ⟨_, _, _, _, _, rfl, _⟩ := h; rfl) | (obtain ⟨_, _, _, _, rfl, _⟩ := h; rfl) | (obtain ⟨_, _, _, rfl, _⟩ := h; rfl) | (obtain ⟨_, _, rfl, _⟩ := h; rfl) | (obtain ⟨_, rfl, _⟩ := h; rfl)) ⟨_, fun cdv A outer s H E E3 hr acc accN => (ss_consX (s_ifX (HT.x (HT.n (h_not (h_truth (h_call D_is_form hr (a_cons (hv 0) (a_cons (hv 1) a_nil))))))) (ss_oneX (s_raiseX accN (Z.xs.cl (.head _)) h_str)) ss_nilX) (ss_consX (HS.x (HS.n (s_set (i := 2) (h_call D_letters_in hr (a_cons (h_call D_half_twist hr (a_cons (hv 0) a_nil)) a_nil)) sc_word_of.nd))) (ss_consX (HS.x (HS.n (s_if (h_tcmp op3_lt (h_ix (hv 1) h_int) h_int (nomark _)) (ss_one (s_set (i := 2) (h_call D_contrary hr (a_cons (hv 2) a_nil)) sc_word_of.nd)) ss_nil))) (ss_consX (HS.x (HS.n (s_set (i := 3) (h_callT call3_list Z.b_list PyProof.Rows.boot_list (a_cons (h_bin op3_mul (hv 2) (h_callB call3_abs Z.b_abs PyProof.Rows.boot_abs (a_cons (h_ix (hv 1) h_int) a_nil))) a_nil)) sc_word_of.nd))) (ss_consX (HS.x (HS.n (s_for PassesOwn.never rfl (i_seq (h_ix (hv 1) h_int)) (g_name (i := 4) sc_word_of.nd) (ss_one (s_expr (h_m_extend (hv 3) (a_cons (h_call D_letters_in hr (a_cons (hv 4) a_nil)) a_nil))))))) (ss_oneX (HS.x (HS.n (s_ret (h_callT call3_tuple Z.b_tuple PyProof.Rows.boot_tuple (a_cons (hv 3) a_nil))))))))))), fun ts M Q E h => ?_⟩
 unfold sp_word_of at h
 split at h
 · rename_i n pw rows
   obtain ⟨R, rfl, hRl, hr, hf, e0⟩ := h
   walk_at "rd"
   refine ⟨R, rfl, hRl, hr, ?_⟩
   rw [hf]
   dsimp only
   rw [if_pos rfl]
   exact ⟨M, Sub.refl, e0⟩
 · exact h.elim
noncomputable def sp__law_cell_at : Sp3 := fun ts M Q => match ts with
 | [.rd s, .int k] => ∃ ns : List Int, s = ns.map .int ∧ 0 ≤ k ∧ ∀ c, Q (.int c) M
 | _ => False
theorem ok__law_cell_at {P : Program} {w : World} {K : PySem.W.Frag} {mg : Str → Option Value} {base : Heap} {f : Addr} {fd : FuncData} {n : Nat} {P_ z1 z2 z3 z4 z5 z6 : Addr}  (F : Fun K "_law_cell_at" "_law_cell_at" s__law_cell_at f fd) (hm : mg "_law_cell_at" = some (.ref f)) (hb : Binds K fd ["script", "k"] []) (Z : Zs K P_ z1 z2 z3 z4 z5 z6 mg)  : Df P w K mg base (n + 1) "_law_cell_at" ["script", "k"] sp__law_cell_at := by
 refine F.dfn hm hb sc__law_cell_at (by intro ts M Q h; unfold sp__law_cell_at at h; first | (split at h <;> first | rfl | exact h.elim) | (obtain ⟨_, _, _, _, _, rfl, _⟩ := h; rfl) | (obtain ⟨_, _, _, _, rfl, _⟩ := h; rfl) | (obtain ⟨_, _, _, rfl, _⟩ := h; rfl) | (obtain ⟨_, _, rfl, _⟩ := h; rfl) | (obtain ⟨_, rfl, _⟩ := h; rfl)) ⟨_, fun cdv A outer s H E hr => (ss_cons (s_if (h_tcmp op3_lt (hv 1) (h_callB call3_len Z.b_len PySem.boot_len (a_cons (hv 0) a_nil)) (nomark _)) (ss_one (s_ret (h_ix (hv 0) (hv 1)))) ss_nil) (ss_one (s_ret h_int))), fun ts M Q h => ?_⟩
 unfold sp__law_cell_at at h
 split at h
 · rename_i s k
   obtain ⟨ns, rfl, h0, h⟩ := h
   walk_at "rd"
   refine ite2 (fun c => ?_) (fun c => rt3_here (h _))
   rw [atI_ints ns k h0 c]
   exact rt3_here (h _)
 · exact h.elim
noncomputable def sp__law_state : Sp3 := fun ts M Q => match ts with
 | [.rd s, .int k] => ∃ ns : List Int, s = ns.map .int ∧ 0 ≤ k ∧ ∀ p n f, M p = none → Q (.adr p) (updM M p (.lst [.int n, .bl f]))
 | _ => False
theorem ok__law_state {P : Program} {w : World} {K : PySem.W.Frag} {mg : Str → Option Value} {base : Heap} {f : Addr} {fd : FuncData} {n : Nat} {P_ z1 z2 z3 z4 z5 z6 : Addr}  (F : Fun K "_law_state" "_law_state" s__law_state f fd) (hm : mg "_law_state" = some (.ref f)) (hb : Binds K fd ["script", "k"] []) (Z : Zs K P_ z1 z2 z3 z4 z5 z6 mg) (D__law_cell_at : Df P w K mg base n "_law_cell_at" ["script", "k"] sp__law_cell_at) : Df P w K mg base (n + 1) "_law_state" ["script", "k"] sp__law_state := by
 refine F.dfn hm hb sc__law_state (by intro ts M Q h; unfold sp__law_state at h; first | (split at h <;> first | rfl | exact h.elim) | (obtain ⟨_, _, _, _, _, rfl, _⟩ := h; rfl) | (obtain ⟨_, _, _, _, rfl, _⟩ := h; rfl) | (obtain ⟨_, _, _, rfl, _⟩ := h; rfl) | (obtain ⟨_, _, rfl, _⟩ := h; rfl) | (obtain ⟨_, rfl, _⟩ := h; rfl)) ⟨_, fun cdv A outer s H E hr => (ss_cons (s_set (i := 2) (h_call D__law_cell_at hr (a_cons (hv 0) (a_cons (hv 1) a_nil))) sc__law_state.nd) (ss_cons (s_if (h_tcmp op3_ge (hv 2) (h_bin op3_pow h_int h_int) (nomark _)) (ss_one (s_ret (h_lst (a_cons (h_bin op3_sub (hv 2) (h_bin op3_pow h_int h_int)) (a_cons h_bl a_nil))))) ss_nil) (ss_one (s_ret (h_lst (a_cons (h_bin op3_mod (hv 2) h_int) (a_cons h_bl a_nil))))))), fun ts M Q h => ?_⟩
 unfold sp__law_state at h
 split at h
 · rename_i s k
   obtain ⟨ns, rfl, h0, h⟩ := h
   walk_at "rd"
   refine ⟨ns, rfl, h0, fun c => ?_⟩
   walk_at "rd"
   refine ⟨⟨by decide, by decide, by decide⟩, ?_⟩
   refine ite2 (fun _ => ⟨⟨by decide, by decide, by decide⟩, by decide, fun p hp => rt3_here (h _ _ _ hp)⟩) (fun _ => ⟨by decide, by decide, fun p hp => rt3_here (h _ _ _ hp)⟩)
 · exact h.elim
theorem cmul_mod {x y k : Int} (hk : 0 < k) (hk' : k ≤ 2 ^ 64) : CMul (x % k) y := by
 have h1 := Int.emod_nonneg x (Int.ne_of_gt hk)
 have h2 := Int.emod_lt_of_pos x hk
 exact .inl ⟨by lia, by lia⟩
theorem cdiv_ok {x m : Int} (h0 : 0 < m) (h1 : m < 2 ^ 100) : CDivB x m := by
 refine ⟨h0, ?_⟩
 have : m.natAbs.log2 < 100 := (Nat.log2_lt (by lia)).mpr (by lia)
 lia
noncomputable def sp__law_choice : Sp3 := fun ts M Q => match ts with
 | [.adr p, .int m] => ∃ s f, M p = some (.lst [.int s, .bl f]) ∧ 0 < m ∧ m < 2 ^ 100 ∧ ∀ c s', 0 ≤ c → c < m → Q (.int c) (updM M p (.lst [.int s', .bl f]))
 | _ => False
theorem ok__law_choice {P : Program} {w : World} {K : PySem.W.Frag} {mg : Str → Option Value} {base : Heap} {f : Addr} {fd : FuncData} {n : Nat} {P_ z1 z2 z3 z4 z5 z6 : Addr}  (F : Fun K "_law_choice" "_law_choice" s__law_choice f fd) (hm : mg "_law_choice" = some (.ref f)) (hb : Binds K fd ["state", "many"] []) (Z : Zs K P_ z1 z2 z3 z4 z5 z6 mg)  : Df P w K mg base (n + 1) "_law_choice" ["state", "many"] sp__law_choice := by
 refine F.dfn hm hb sc__law_choice (by intro ts M Q h; unfold sp__law_choice at h; first | (split at h <;> first | rfl | exact h.elim) | (obtain ⟨_, _, _, _, _, rfl, _⟩ := h; rfl) | (obtain ⟨_, _, _, _, rfl, _⟩ := h; rfl) | (obtain ⟨_, _, _, rfl, _⟩ := h; rfl) | (obtain ⟨_, _, rfl, _⟩ := h; rfl) | (obtain ⟨_, rfl, _⟩ := h; rfl)) ⟨_, fun cdv A outer s H E hr => (ss_cons (s_if (h_truth (h_ix (hv 0) h_int)) (ss_cons (s_set (i := 2) (h_bin op3_mod (h_ix (hv 0) h_int) (hv 1)) sc__law_choice.nd) (ss_cons (s_asg (h_bin op3_div (h_ix (hv 0) h_int) (hv 1)) (g_sub (hv 0) h_int)) (ss_one (s_ret (hv 2))))) ss_nil) (ss_cons (s_asg (h_bin op3_mod (h_bin op3_add (h_bin op3_mul (h_ix (hv 0) h_int) h_int) h_int) h_int) (g_sub (hv 0) h_int)) (ss_cons (s_set (i := 3) (h_bin op3_mod (h_bin op3_add (h_bin op3_add (h_bin op3_mul (h_ix (hv 0) h_int) (h_ix (hv 0) h_int)) (h_bin op3_mul h_int (h_ix (hv 0) h_int))) h_int) h_int) sc__law_choice.nd) (ss_cons (s_set (i := 3) (h_bin op3_mod (h_bin op3_add (h_bin op3_mul (hv 3) (hv 3)) (h_bin op3_mul h_int (hv 3))) h_int) sc__law_choice.nd) (ss_one (s_ret (h_bin op3_mod (h_bin op3_div (hv 3) h_int) (hv 1)))))))), fun ts M Q h => ?_⟩
 unfold sp__law_choice at h
 split at h
 · rename_i p m
   obtain ⟨s, f, hM, h0, h1, h⟩ := h
   refine seq_cut fun K1 hK1 => ?_
   have hk : K1 [some (.adr p), some (.int m), none, none] M := by
     rw [hK1]
     clear hK1
     refine seq_cut fun K2 hK2 => ?_
     walk_at "rd"
     simp only [hM]
     walk_at "rd"
     refine ⟨.inr ⟨by decide, by decide⟩, by decide, ?_⟩
     have hM2 : updM M p (.lst [.int ((s * 48271 + 29) % 2147483647), .bl f]) p = some (.lst [.int ((s * 48271 + 29) % 2147483647), .bl f]) := updM_same
     have b0 : CMul ((s * 48271 + 29) % 2147483647) ((s * 48271 + 29) % 2147483647) := cmul_mod (by decide) (by decide)
     generalize (s * 48271 + 29) % 2147483647 = s1 at hM2 b0 ⊢
     rw [hK2]
     clear hK2
     refine seq_cut fun K3 hK3 => ?_
     walk_at "rd"
     refine ⟨b0, .inl ⟨by decide, by decide⟩, by decide, ?_⟩
     have b1 : ∀ y, CMul ((s1 * s1 + 39373 * s1 + 7) % 2147483629) y := fun y => cmul_mod (by decide) (by decide)
     generalize (s1 * s1 + 39373 * s1 + 7) % 2147483629 = mx at b1 ⊢
     rw [hK3]
     clear hK3
     walk_at "rd"
     refine ⟨b1 _, .inl ⟨by decide, by decide⟩, by decide, cdiv_ok (by decide) (by decide), h0, ?_⟩
     have hh := h (((mx * mx + 16807 * mx) % 2147483587) / 8 % m) s1 (Int.emod_nonneg _ (Int.ne_of_gt h0)) (Int.emod_lt_of_pos _ h0)
     refine rt3_sub hh ?_
     exact Sub.refl
   walk_at "rd"
   simp only [hM]
   walk_at "rd"
   exact ite2 (fun c => ⟨h0, cdiv_ok h0 h1, rt3_here (h _ _ (Int.emod_nonneg _ (Int.ne_of_gt h0)) (Int.emod_lt_of_pos _ h0))⟩) (fun c => hk)
 · exact h.elim
noncomputable def sp__law_word : Sp3 := fun ts M Q => match ts with
 | [.adr p, .int n, .int c] => ∃ s f, M p = some (.lst [.int s, .bl f]) ∧ n < 2 ^ 60 ∧ 0 ≤ c ∧ c ≤ 1000 ∧ ∀ (w : List Int) s', WordOK n w → (w.length : Int) ≤ c → (2 ≤ n → (w.length : Int) = c) → Q (.tup (w.map .int)) (updM M p (.lst [.int s', .bl f]))
 | _ => False
theorem ok__law_word {P : Program} {w : World} {K : PySem.W.Frag} {mg : Str → Option Value} {base : Heap} {f : Addr} {fd : FuncData} {n : Nat} {P_ z1 z2 z3 z4 z5 z6 : Addr}  (F : Fun K "_law_word" "_law_word" s__law_word f fd) (hm : mg "_law_word" = some (.ref f)) (hb : Binds K fd ["state", "strands", "count"] []) (Z : Zs K P_ z1 z2 z3 z4 z5 z6 mg) (D__law_choice : Df P w K mg base n "_law_choice" ["state", "many"] sp__law_choice) : Df P w K mg base (n + 1) "_law_word" ["state", "strands", "count"] sp__law_word := by
 refine F.dfn hm hb sc__law_word (by intro ts M Q h; unfold sp__law_word at h; first | (split at h <;> first | rfl | exact h.elim) | (obtain ⟨_, _, _, _, _, rfl, _⟩ := h; rfl) | (obtain ⟨_, _, _, _, rfl, _⟩ := h; rfl) | (obtain ⟨_, _, _, rfl, _⟩ := h; rfl) | (obtain ⟨_, _, rfl, _⟩ := h; rfl) | (obtain ⟨_, rfl, _⟩ := h; rfl)) ⟨_, fun cdv A outer s H E hr => (ss_cons (s_if (h_tcmp op3_lt (hv 1) h_int (nomark _)) (ss_one (s_ret (h_tup a_nil))) ss_nil) (ss_one (s_ret (h_callT call3_tuple Z.b_tuple PyProof.Rows.boot_tuple (a_cons (h_comp rfl (i_range1 Z.b_range (a_cons (hv 2) a_nil)) (blk_scope (outer := defScope s__law_word) (N := ["state", "strands", "count"]) (N' := ["k", "state", "strands"]) (ix := [none, some 0, some 1]) (by decide +kernel) rfl rfl) bt_name (fun _ _ _ _ _ => pg_name (i := 0) (show List.Nodup (["k", "state", "strands"] : List Str) by decide +kernel) rfl (Or.inl rfl) (Or.inr rfl)) (fun _ _ _ _ _ => ts_nil) (fun _ _ _ _ _ => (h_bin op3_mul (h_ix (h_lst (a_cons h_int (a_cons (h_un un3_neg h_int) a_nil))) (h_call D__law_choice hr (a_cons (hv 1) (a_cons h_int a_nil)))) (h_bin op3_add h_int (h_call D__law_choice hr (a_cons (hv 1) (a_cons (h_bin op3_sub (hv 2) h_int) a_nil))))))) a_nil))))), fun ts M Q h => ?_⟩
 unfold sp__law_word at h
 split at h
 · rename_i p n c
   obtain ⟨s, f, hM, hn, h0, h1, h⟩ := h
   walk_at "rd"
   refine ite2 (fun hc => ?_) (fun hc => ⟨by lia, by lia, ?_⟩)
   · have := h [] s (fun _ z => nomatch z) (by simpa using h0) (by lia)
     rw [updM_self hM] at this
     exact rt3_here this
   · refine ⟨fun i ys M' => ∃ w s', ys = w.map T.int ∧ w.length = i ∧ WordOK n w ∧ Sub (updM M p (.lst [.int s', .bl f])) M', ⟨[], s, rfl, rfl, (fun _ z => nomatch z), by rw [updM_self hM]; exact Sub.refl⟩, fun _ _ _ _ => trivial, ?_, ?_, ?_⟩
     · unfold rangeT; rw [List.length_map, List.length_range]; exact Nat.lt_of_le_of_lt (by lia : c.toNat ≤ 1000) (by decide)
     · rintro i x ys M' hx ⟨w, s', rfl, rfl, hw, hS⟩
       walk_at "rd"
       refine ⟨by decide, fun r hr => ?_⟩
       have hM' := hS p _ updM_same
       have hpr : p ≠ r := ne_of_M hM' hr
       refine ⟨s', f, by rw [updM_ne hpr, hM'], by decide, by decide, fun c1 s1 hc0 hc1 => ?_⟩
       simp only [updM_ne hpr.symm, updM_same]
       have hcc : c1 = 0 ∨ c1 = 1 := by lia
       have fin : ∀ g : Int, (g = 1 ∨ g = -1) → ∀ c2 s2 : Int, 0 ≤ c2 → c2 < n - 1 → CMul g (1 + c2) ∧ ∃ w' s'', List.map T.int w ++ [T.int (g * (1 + c2))] = List.map T.int w' ∧ w'.length = w.length + 1 ∧ WordOK n w' ∧
           Sub (updM M p (.lst [.int s'', .bl f])) (updM (updM M' r (.lst [.int 1, .int (-1)])) p (.lst [.int s2, .bl f])) := by
         intro g hg c2 s2 h20 h21
         refine ⟨.inl ⟨by lia, by lia⟩, w ++ [g * (1 + c2)], s2, by simp, by simp, fun l hl => ?_, (hS.newr hr).set⟩
         rcases List.mem_append.mp hl with z | z
         · exact hw l z
         · have e : l = g * (1 + c2) := by simpa using z
           subst e
           unfold LetOK
           rcases hg with rfl | rfl
           · rw [Int.one_mul]; lia
           · rw [Int.neg_one_mul]; lia
       rcases hcc with rfl | rfl
       · walk_at "rd"
         exact ⟨s1, f, updM_same, by lia, by lia, fun c2 s2 h20 h21 => by walk_at "rd"; exact fin 1 (.inl rfl) c2 s2 h20 h21⟩
       · walk_at "rd"
         exact ⟨s1, f, updM_same, by lia, by lia, fun c2 s2 h20 h21 => by walk_at "rd"; exact fin (-1) (.inr rfl) c2 s2 h20 h21⟩
     · rintro ys M' ⟨w, s', rfl, hl, hw, hS⟩ q hq
       have hlen : (w.length : Int) = c := by
         rw [hl]; unfold rangeT; rw [List.length_map, List.length_range]; lia
       exact rt3_sub (h w s' hw (by lia) (fun _ => hlen)) (hS.newr hq)
 · exact h.elim
noncomputable def sp__law_plait : Sp3 := fun ts M Q => match ts with
 | [.adr p, .int a, .int b, .int c] => ∃ s f, M p = some (.lst [.int s, .bl f]) ∧ a ≤ b ∧ 0 ≤ a ∧ b ≤ 1000 ∧ 0 ≤ c ∧ c < 1000 ∧ ∀ (n : Int) (w : List Int) s', a ≤ n → n ≤ b → WordOK n w → (w.length : Int) ≤ c → Q (.tup [.int n, .tup (w.map .int)]) (updM M p (.lst [.int s', .bl f]))
 | _ => False
theorem ok__law_plait {P : Program} {w : World} {K : PySem.W.Frag} {mg : Str → Option Value} {base : Heap} {f : Addr} {fd : FuncData} {n : Nat} {P_ z1 z2 z3 z4 z5 z6 : Addr}  (F : Fun K "_law_plait" "_law_plait" s__law_plait f fd) (hm : mg "_law_plait" = some (.ref f)) (hb : Binds K fd ["state", "least", "most", "letters"] []) (Z : Zs K P_ z1 z2 z3 z4 z5 z6 mg) (D__law_choice : Df P w K mg base n "_law_choice" ["state", "many"] sp__law_choice) (D__law_word : Df P w K mg base n "_law_word" ["state", "strands", "count"] sp__law_word) : Df P w K mg base (n + 1) "_law_plait" ["state", "least", "most", "letters"] sp__law_plait := by
 refine F.dfn hm hb sc__law_plait (by intro ts M Q h; unfold sp__law_plait at h; first | (split at h <;> first | rfl | exact h.elim) | (obtain ⟨_, _, _, _, _, rfl, _⟩ := h; rfl) | (obtain ⟨_, _, _, _, rfl, _⟩ := h; rfl) | (obtain ⟨_, _, _, rfl, _⟩ := h; rfl) | (obtain ⟨_, _, rfl, _⟩ := h; rfl) | (obtain ⟨_, rfl, _⟩ := h; rfl)) ⟨_, fun cdv A outer s H E hr => (ss_cons (s_set (i := 4) (h_bin op3_add (hv 1) (h_call D__law_choice hr (a_cons (hv 0) (a_cons (h_bin op3_add (h_bin op3_sub (hv 2) (hv 1)) h_int) a_nil)))) sc__law_plait.nd) (ss_one (s_ret (h_tup (a_cons (hv 4) (a_cons (h_call D__law_word hr (a_cons (hv 0) (a_cons (hv 4) (a_cons (h_call D__law_choice hr (a_cons (hv 0) (a_cons (h_bin op3_add (hv 3) h_int) a_nil))) a_nil)))) a_nil)))))), fun ts M Q h => ?_⟩
 unfold sp__law_plait at h
 split at h
 · rename_i p a b c
   obtain ⟨s, f, hM, h1, h2, h3, h4, h5, h⟩ := h
   walk_at "rd"
   refine ⟨s, f, hM, by lia, by lia, fun c1 s1 h10 h11 => ?_⟩
   walk_at "rd"
   refine ⟨s1, f, updM_same, by lia, by lia, fun c2 s2 h20 h21 => ?_⟩
   walk_at "rd"
   refine ⟨s2, f, by simp only [updM_same], by lia, by lia, by lia, fun w s3 hw hl _ => ?_⟩
   walk_at "rd"
   exact ⟨by decide, rt3_here (h _ _ _ (by lia) (by lia) hw (by lia))⟩
 · exact h.elim
noncomputable def sp__law_bad : Sp3 := fun ts M Q => match ts with
 | [.adr p] => ∃ (s : Int) (f : Bool), M p = some (.lst [.int s, .bl f]) ∧ ∀ (n : Int) (w : List Int) (s' : Int), ¬ PlOK n w → w.length < 10000 → Q (.tup [.int n, .tup (w.map .int)]) (updM M p (.lst [.int s', .bl f]))
 | _ => False
theorem ok__law_bad {P : Program} {w : World} {K : PySem.W.Frag} {mg : Str → Option Value} {base : Heap} {f : Addr} {fd : FuncData} {n : Nat} {P_ z1 z2 z3 z4 z5 z6 : Addr}  (F : Fun K "_law_bad" "_law_bad" s__law_bad f fd) (hm : mg "_law_bad" = some (.ref f)) (hb : Binds K fd ["state"] []) (Z : Zs K P_ z1 z2 z3 z4 z5 z6 mg) (D__law_choice : Df P w K mg base n "_law_choice" ["state", "many"] sp__law_choice) (D__law_word : Df P w K mg base n "_law_word" ["state", "strands", "count"] sp__law_word) : Df P w K mg base (n + 1) "_law_bad" ["state"] sp__law_bad := by
 refine F.dfn hm hb sc__law_bad (by intro ts M Q h; unfold sp__law_bad at h; first | (split at h <;> first | rfl | exact h.elim) | (obtain ⟨_, _, _, _, _, rfl, _⟩ := h; rfl) | (obtain ⟨_, _, _, _, rfl, _⟩ := h; rfl) | (obtain ⟨_, _, _, rfl, _⟩ := h; rfl) | (obtain ⟨_, _, rfl, _⟩ := h; rfl) | (obtain ⟨_, rfl, _⟩ := h; rfl)) ⟨_, fun cdv A outer s H E hr => (ss_cons (s_set (i := 1) (h_bin op3_add h_int (h_call D__law_choice hr (a_cons (hv 0) (a_cons h_int a_nil)))) sc__law_bad.nd) (ss_cons (s_set (i := 2) (h_callT call3_list Z.b_list PyProof.Rows.boot_list (a_cons (h_call D__law_word hr (a_cons (hv 0) (a_cons (hv 1) (a_cons (h_call D__law_choice hr (a_cons (hv 0) (a_cons h_int a_nil))) a_nil)))) a_nil)) sc__law_bad.nd) (ss_cons (s_set (i := 3) (h_ix (h_lst (a_cons h_int (a_cons h_int (a_cons (h_bin op3_pow h_int h_int) (a_cons (h_bin op3_pow h_int h_int) a_nil))))) (h_call D__law_choice hr (a_cons (hv 0) (a_cons h_int a_nil)))) sc__law_bad.nd) (ss_cons (s_set (i := 4) (h_call D__law_choice hr (a_cons (hv 0) (a_cons h_int a_nil))) sc__law_bad.nd) (ss_cons (s_if (h_tcmp (op3_eq hr.units) (hv 4) h_int (nomark _)) (ss_one (s_ret (h_tup (a_cons (h_ix (h_lst (a_cons h_int (a_cons h_int (a_cons (h_un un3_neg h_int) (a_cons (h_un un3_neg h_int) (a_cons (h_bin op3_add h_int (hv 3)) (a_cons (h_bin op3_sub h_int (hv 3)) a_nil))))))) (h_call D__law_choice hr (a_cons (hv 0) (a_cons h_int a_nil)))) (a_cons (h_callT call3_tuple Z.b_tuple PyProof.Rows.boot_tuple (a_cons (hv 2) a_nil)) a_nil))))) ss_nil) (ss_cons (s_if (h_tcmp (op3_eq hr.units) (hv 4) h_int (nomark _)) (ss_cons (s_set (i := 5) (h_ix (h_lst (a_cons h_int (a_cons (h_bin op3_sub h_int h_int) a_nil))) (h_call D__law_choice hr (a_cons (hv 0) (a_cons h_int a_nil)))) sc__law_bad.nd) (ss_one (s_ret (h_tup (a_cons (h_callB (call3_max rfl) Z.b_max PyProof.Rows.boot_max (a_cons h_int (a_cons (hv 1) a_nil))) (a_cons (h_bin op3_mul (h_tup (a_cons (hv 5) a_nil)) (h_bin op3_add h_int (h_call D__law_choice hr (a_cons (hv 0) (a_cons h_int a_nil))))) a_nil)))))) ss_nil) (ss_cons (s_set (i := 6) (h_call D__law_choice hr (a_cons (hv 0) (a_cons (h_bin op3_add (h_callB call3_len Z.b_len PySem.boot_len (a_cons (hv 2) a_nil)) h_int) a_nil))) sc__law_bad.nd) (ss_cons (s_set (i := 7) (h_ix (h_lst (a_cons h_int (a_cons (hv 1) (a_cons (h_bin op3_sub h_int (hv 1)) (a_cons (h_bin op3_add (hv 1) (hv 3)) (a_cons (h_bin op3_sub (h_bin op3_sub h_int (hv 1)) (hv 3)) a_nil)))))) (h_call D__law_choice hr (a_cons (hv 0) (a_cons h_int a_nil)))) sc__law_bad.nd) (ss_cons (s_if (h_tcmp (op3_eq hr.units) (hv 4) h_int (nomark _)) (ss_one (s_ret (h_tup (a_cons h_int (a_cons (h_callT call3_tuple Z.b_tuple PyProof.Rows.boot_tuple (a_cons (h_bin op3_add (h_bin op3_add (h_slice (hv 2) o_none (o_some (hv 6))) (h_lst (a_cons (hv 7) a_nil))) (h_slice (hv 2) (o_some (hv 6)) o_none)) a_nil)) a_nil))))) ss_nil) (ss_one (s_ret (h_tup (a_cons (hv 1) (a_cons (h_callT call3_tuple Z.b_tuple PyProof.Rows.boot_tuple (a_cons (h_bin op3_add (h_bin op3_add (h_slice (hv 2) o_none (o_some (hv 6))) (h_lst (a_cons (hv 7) a_nil))) (h_slice (hv 2) (o_some (hv 6)) o_none)) a_nil)) a_nil)))))))))))))), fun ts M Q h => ?_⟩
 unfold sp__law_bad at h
 split at h
 · rename_i p
   obtain ⟨s, f, hM, h⟩ := h
   refine seq_cut fun Ka hKa => ?_
   walk_at "rd"
   refine ⟨s, f, hM, by decide, by decide, fun c1 k1 c10 c11 => ?_⟩
   rw [hKa]
   clear hKa
   refine seq_cut fun Kb hKb => ?_
   walk_at "rd"
   refine ⟨k1, f, updM_same, by decide, by decide, fun c2 k2 c20 c21 => ?_⟩
   simp only [updM_updM]
   refine ⟨k2, f, updM_same, by lia, by lia, by lia, fun w k3 hw hwl hwl2 => ?_⟩
   simp only [updM_updM]
   intro r hr
   have n1 : p ≠ r := fun z => by rw [← z, updM_same] at hr; cases hr
   have hS0 : Sub (updM M p (.lst [.int k3, .bl f])) (updM (updM M p (.lst [.int k3, .bl f])) r (.lst (w.map T.int))) := Sub.new hr
   have hr0 : updM (updM M p (.lst [.int k3, .bl f])) r (.lst (w.map T.int)) r = some (.lst (w.map T.int)) := updM_same
   have hp0 := hS0 _ _ updM_same
   generalize updM (updM M p (.lst [.int k3, .bl f])) r (.lst (w.map T.int)) = M0 at hS0 hr0 hp0 ⊢
   clear hr
   rw [hKb]
   clear hKb
   refine seq_cut fun Kc hKc => ?_
   walk_at "rd"
   refine ⟨⟨by decide, by decide, by decide⟩, ⟨by decide, by decide, by decide⟩, by decide, fun p1 hp1 => ?_⟩
   have n2 : p1 ≠ p := fun z => by rw [z, hp0] at hp1; cases hp1
   have n3 : p1 ≠ r := fun z => by rw [z, hr0] at hp1; cases hp1
   refine ⟨k3, f, by rw [updM_ne n2.symm, hp0], by decide, by decide, fun c4 k4 c40 c41 => ?_⟩
   have e1 : ∃ g : Int, 1 ≤ g ∧ atI [T.int 1, T.int 10, T.int (10 ^ Int.toNat 9), T.int (10 ^ Int.toNat 20)] c4 = some (.int g) := by
     rcases (show c4 = 0 ∨ c4 = 1 ∨ c4 = 2 ∨ c4 = 3 by lia) with rfl | rfl | rfl | rfl
     · exact ⟨_, by decide, rfl⟩
     · exact ⟨_, by decide, rfl⟩
     · exact ⟨_, by decide, rfl⟩
     · exact ⟨_, by decide, rfl⟩
   obtain ⟨g, hg, e1⟩ := e1
   simp only [updM_ne n2, updM_same, e1]
   have hS1 := (hS0.newr hp1 (o := MO.lst [T.int 1, T.int 10, T.int (10 ^ Int.toNat 9), T.int (10 ^ Int.toNat 20)])).set (u := .lst [.int k4, .bl f])
   have hr1 : updM (updM M0 p1 (MO.lst [T.int 1, T.int 10, T.int (10 ^ Int.toNat 9), T.int (10 ^ Int.toNat 20)])) p (MO.lst [T.int k4, T.bl f]) r = some (.lst (w.map T.int)) := by rw [updM_ne n1.symm, updM_ne n3.symm, hr0]
   generalize updM (updM M0 p1 (MO.lst [T.int 1, T.int 10, T.int (10 ^ Int.toNat 9), T.int (10 ^ Int.toNat 20)])) p (MO.lst [T.int k4, T.bl f]) = M3 at hS1 hr1 ⊢
   clear hp1
   rw [hKc]
   clear hKc
   refine seq_cut fun K4 hK4 => ?_
   walk_at "rd"
   refine ⟨k4, f, hS1 _ _ updM_same, by decide, by decide, fun kind k5 kd0 kd1 => ?_⟩
   have hS := hS1.set (u := .lst [.int k5, .bl f])
   have hr' : updM M3 p (MO.lst [T.int k5, T.bl f]) r = some (.lst (w.map T.int)) := by rw [updM_ne n1.symm, hr1]
   generalize updM M3 p (MO.lst [T.int k5, T.bl f]) = M4 at hS hr' ⊢
   have hp4 : M4 p = some (.lst [.int k5, .bl f]) := hS _ _ updM_same
   have bad : ∀ (n : Int) (u : List Int) (kk : Int) (M5 : MH), ¬ PlOK n u → u.length < 10000 → Sub (updM M p (.lst [.int kk, .bl f])) M5 → rt3 M Q (T.tup [T.int n, T.tup (u.map T.int)]) M5 := fun n u kk M5 h1 h2 h3 => rt3_sub (h n u kk h1 h2) h3
   rw [hK4]
   refine seq_cut2 fun K6 hK6 => ?_
   walk_at "rd"
   refine ite2 (fun hk => ?_) (fun _ => ite2 (fun hk => ?_) (fun _ => ?_))
   · refine ⟨by decide, fun p2 hp2 => ?_⟩
     have m1 : p2 ≠ p := fun z => by rw [z, hp4] at hp2; cases hp2
     have m2 : r ≠ p2 := fun z => by rw [← z, hr'] at hp2; cases hp2
     refine ⟨k5, f, by rw [updM_ne m1.symm, hp4], by decide, by decide, fun c6 k6 c60 c61 => ?_⟩
     have e2 : ∃ b : Int, ¬ (1 ≤ b ∧ b ≤ 6) ∧ atI [T.int 0, T.int 7, T.int (-1), T.int (-6), T.int (7 + g), T.int (0 - g)] c6 = some (.int b) := by
       rcases (show c6 = 0 ∨ c6 = 1 ∨ c6 = 2 ∨ c6 = 3 ∨ c6 = 4 ∨ c6 = 5 by lia) with rfl | rfl | rfl | rfl | rfl | rfl
       · exact ⟨_, by decide, rfl⟩
       · exact ⟨_, by decide, rfl⟩
       · exact ⟨_, by decide, rfl⟩
       · exact ⟨_, by decide, rfl⟩
       · exact ⟨7 + g, by lia, rfl⟩
       · exact ⟨0 - g, by lia, rfl⟩
     obtain ⟨b, hb, e2⟩ := e2
     simp only [updM_ne m1, updM_ne m2, updM_ne n1.symm, updM_same, e2, hr']
     exact ⟨by decide, bad b w k6 _ (fun z => hb ⟨z.1, z.2.1⟩) (by lia) ((hS.newr hp2).set)⟩
   · refine ⟨by decide, fun p2 hp2 => ?_⟩
     have m1 : p2 ≠ p := fun z => by rw [z, hp4] at hp2; cases hp2
     refine ⟨k5, f, by rw [updM_ne m1.symm, hp4], by decide, by decide, fun c6 k6 c60 c61 => ?_⟩
     have e2 : ∃ b : Int, atI [T.int 1, T.int (0 - 1)] c6 = some (.int b) := by
       rcases (show c6 = 0 ∨ c6 = 1 by lia) with rfl | rfl
       · exact ⟨_, rfl⟩
       · exact ⟨_, rfl⟩
     obtain ⟨b, e2⟩ := e2
     simp only [updM_ne m1, updM_same, e2]
     refine ⟨by decide, k6, f, updM_same, by decide, by decide, fun c7 k7 c70 c71 => ?_⟩
     simp only [updM_updM]
     have e3 : (List.replicate (17 + c7).toNat [T.int b]).flatten = (List.replicate (17 + c7).toNat b).map T.int := by
       rw [List.map_replicate]
       generalize (17 + c7).toNat = a
       induction a with
       | zero => rfl
       | succ a ih => rw [List.replicate_succ, List.flatten_cons, ih]; rfl
     rw [e3]
     exact ⟨by lia, by lia, line_len' (by lia), by decide, bad _ _ k7 _ (fun z => absurd z.2.2.1 (by rw [List.length_replicate]; lia)) (by rw [List.length_replicate]; lia) ((hS.newr hp2).set)⟩
   · rw [hK6]
     refine seq_cut2 fun K7 hK7 => ?_
     walk_at "rd"
     simp only [hr']
     refine ⟨k5, f, hp4, by rw [List.length_map]; lia, by rw [List.length_map]; lia, fun c6 k6 c60 c61 => ?_⟩
     rw [List.length_map] at c61
     have hS6 : Sub (updM M p (.lst [.int k6, .bl f])) (updM M4 p (MO.lst [T.int k6, T.bl f])) := hS.set
     refine ⟨by decide, fun p2 hp2 => ?_⟩
     have m1 : p2 ≠ p := fun z => by rw [z, updM_same] at hp2; cases hp2
     have m2 : r ≠ p2 := fun z => by rw [← z, updM_ne n1.symm, hr'] at hp2; cases hp2
     refine ⟨k6, f, by rw [updM_ne m1.symm, updM_same], by decide, by decide, fun c7 k7 c70 c71 => ?_⟩
     have e2 : ∃ b : Int, ¬ LetOK (1 + c1) b ∧ atI [T.int 0, T.int (1 + c1), T.int (0 - (1 + c1)), T.int (1 + c1 + g), T.int (0 - (1 + c1) - g)] c7 = some (.int b) := by
       rcases (show c7 = 0 ∨ c7 = 1 ∨ c7 = 2 ∨ c7 = 3 ∨ c7 = 4 by lia) with rfl | rfl | rfl | rfl | rfl
       · exact ⟨_, by unfold LetOK; lia, rfl⟩
       · exact ⟨_, by unfold LetOK; lia, rfl⟩
       · exact ⟨_, by unfold LetOK; lia, rfl⟩
       · exact ⟨1 + c1 + g, by unfold LetOK; lia, rfl⟩
       · exact ⟨0 - (1 + c1) - g, by unfold LetOK; lia, rfl⟩
     obtain ⟨b, hb, e2⟩ := e2
     simp only [updM_ne m1, updM_same, e2]
     have hS7 : Sub (updM M p (.lst [.int k7, .bl f])) (updM (updM (updM M4 p (MO.lst [T.int k6, T.bl f])) p2 (MO.lst [T.int 0, T.int (1 + c1), T.int (0 - (1 + c1)), T.int (1 + c1 + g), T.int (0 - (1 + c1) - g)])) p (MO.lst [T.int k7, T.bl f])) := (hS6.newr hp2).set
     have hr7 : updM (updM (updM M4 p (MO.lst [T.int k6, T.bl f])) p2 (MO.lst [T.int 0, T.int (1 + c1), T.int (0 - (1 + c1)), T.int (1 + c1 + g), T.int (0 - (1 + c1) - g)])) p (MO.lst [T.int k7, T.bl f]) r = some (.lst (w.map T.int)) := by rw [updM_ne n1.symm, updM_ne m2, updM_ne n1.symm, hr']
     generalize updM (updM (updM M4 p (MO.lst [T.int k6, T.bl f])) p2 (MO.lst [T.int 0, T.int (1 + c1), T.int (0 - (1 + c1)), T.int (1 + c1 + g), T.int (0 - (1 + c1) - g)])) p (MO.lst [T.int k7, T.bl f]) = M7 at hS7 hr7 ⊢
     have put : ¬ PlOK (1 + c1) (w.take c6.toNat ++ [b] ++ w.drop c6.toNat) := fun z => hb (z.2.2.2 b (by simp))
     have put0 : ¬ PlOK 0 (w.take c6.toNat ++ [b] ++ w.drop c6.toNat) := fun z => absurd z.1 (by decide)
     have putl : (w.take c6.toNat ++ [b] ++ w.drop c6.toNat).length < 10000 := by
       rw [List.length_append, List.length_append, List.length_take, List.length_drop]
       simp only [List.length_singleton]
       lia
     rw [hK7]
     walk_at "rd"
     simp only [hr7]
     simp only [cutT_to' _ _ c60, cutT_from' _ _ c60, ← List.map_take]
     have e5 : List.map T.int (w.take c6.toNat) ++ [T.int b] ++ List.map T.int (w.drop c6.toNat) = (w.take c6.toNat ++ [b] ++ w.drop c6.toNat).map T.int := by
       rw [List.map_append, List.map_append]; rfl
     refine ite2 (fun _ => ?_) (fun _ => ?_)
     all_goals
       intro r1 hr1
       refine ⟨by decide, fun p3 hp3 => ?_⟩
       have x1 : r1 ≠ p3 := fun z => by rw [← z, updM_same] at hp3; cases hp3
       simp only [updM_ne x1, updM_same]
       refine ⟨by rw [List.length_map, List.length_take]; exact line_len' (by simp only [List.length_singleton]; lia), fun r2 hr2 => ?_⟩
       rw [((Sub.new hr1).newr hp3).newr hr2 _ _ hr7]
       intro r3 hr3
       have x2 : r2 ≠ r3 := fun z => by rw [← z, updM_same] at hr3; cases hr3
       simp only [updM_ne x2, updM_same]
       rw [← List.map_drop]
       refine ⟨by rw [List.length_append, List.length_map, List.length_map, List.length_take, List.length_drop]; exact line_len' (by simp only [List.length_singleton]; lia), fun r4 hr4 => ⟨by decide, ?_⟩⟩
       rw [e5]
       first
         | exact bad _ _ k7 _ put0 putl (((((hS7.newr hr1).newr hp3).newr hr2).newr hr3).newr hr4)
         | exact bad _ _ k7 _ put putl (((((hS7.newr hr1).newr hp3).newr hr2).newr hr3).newr hr4)
 · exact h.elim
theorem ok__law_marks {P : Program} {w : World} {K : PySem.W.Frag} {mg : Str → Option Value} {base : Heap} {f : Addr} {fd : FuncData} {n : Nat} {P_ z1 z2 z3 z4 z5 z6 : Addr} (F : Fun K "_law_marks" "_law_marks" s__law_marks f fd) (hm : mg "_law_marks" = some (.ref f)) (hb : Binds K fd ["e"] []) (Z : Zs K P_ z1 z2 z3 z4 z5 z6 mg) : DfM P w K mg base (n + 1) "_law_marks" (xDs [("NoPlait", z1), ("NoRoom", z2), ("NoStep", z3), ("NoNumber", z4), ("NoTable", z5), ("BadNote", z6)]) := by
 refine ⟨f, fd, ?_, hm, F.kp, hb⟩
 obtain ⟨oc, od, kV, doc, pm, an, cdv, ct, osl, rfl, lk, hcd⟩ := F.ex
 exact fn_ofH lk hcd sc__law_marks (fun vs H Q E ⟨a, C, φ, bs, e, _⟩ => by rw [e]; rfl) fun A outer s H vs Q E hr hsp => ⟨_, pss_cons (ps_set (i := 1) sc__law_marks.nd rfl (Or.inl rfl) (pe_lst (pa_cons (pe_isx (i := 0) rfl (Or.inl rfl) Z.b_isinstance (fun pins s σ H Q E I q => ld_glob I rfl (Z.xs.mg ("NoPlait", z1) (.head _)) q) (by decide) (by decide)) (pa_cons (pe_isx (i := 0) rfl (Or.inl rfl) Z.b_isinstance (fun pins s σ H Q E I q => ld_glob I rfl (Z.xs.mg ("NoRoom", z2) (.tail _ (.head _))) q) (by decide) (by decide)) (pa_cons (pe_isx (i := 0) rfl (Or.inl rfl) Z.b_isinstance (fun pins s σ H Q E I q => ld_glob I rfl (Z.xs.mg ("NoStep", z3) (.tail _ (.tail _ (.head _)))) q) (by decide) (by decide)) (pa_cons (pe_isx (i := 0) rfl (Or.inl rfl) Z.b_isinstance (fun pins s σ H Q E I q => ld_glob I rfl (Z.xs.mg ("NoNumber", z4) (.tail _ (.tail _ (.tail _ (.head _))))) q) (by decide) (by decide)) pa_nil)))))) (pss_one (ps_ret (pe_op op_cat (pe_var (i := 1) rfl (Or.inl rfl)) (pe_lst (pa_cons (pe_isx (i := 0) rfl (Or.inl rfl) Z.b_isinstance (fun pins s σ H Q E I q => ld_glob I rfl (Z.xs.mg ("NoTable", z5) (.tail _ (.tail _ (.tail _ (.tail _ (.head _)))))) q) (by decide) (by decide)) (pa_cons (pe_isx (i := 0) rfl (Or.inl rfl) Z.b_isinstance (fun pins s σ H Q E I q => ld_glob I rfl (Z.xs.mg ("BadNote", z6) (.tail _ (.tail _ (.tail _ (.tail _ (.tail _ (.head _))))))) q) (by decide) (by decide)) (pa_cons (pe_isx (i := 0) rfl (Or.inl rfl) Z.b_isinstance (fun pins s σ H Q E I q => ld_blt I rfl Z.b_ValueError rfl q) (by decide) (by decide)) pa_nil))))))), marks_read (D1 := .ref z1) (D2 := .ref z2) (D3 := .ref z3) (D4 := .ref z4) (D5 := .ref z5) (D6 := .ref z6) (D7 := .type "ValueError") hsp⟩
noncomputable def refL (j : Int) : List Bool := ((List.range 6).map fun k => decide (((k : Nat) : Int) = j)) ++ [true]
theorem eqTs_bools : ∀ (a b : List Bool), eqTs (a.map T.bl) (b.map T.bl) = decide (a = b)
 | [], [] => by simp [eqTs_nil]
 | [], u :: L' => by simp [eqTs]
 | u :: L, [] => by simp [eqTs]
 | u :: L, v :: L' => by
   rw [List.map_cons, List.map_cons, eqTs_cons, eqTs_bools L L']
   cases u <;> cases v <;> simp [eqT]
theorem pureTs_bools : ∀ a : List Bool, pureTs (a.map T.bl) = true
 | [] => rfl
 | u :: L => by rw [List.map_cons, pureTs_cons, pureTs_bools L]; rfl
theorem depTs_bools : ∀ a : List Bool, depTs (a.map T.bl) = 0
 | [] => rfl
 | u :: L => by rw [List.map_cons, depTs_cons, depTs_bools L]; rfl
noncomputable def sp__law_refused : Sp3 := fun ts M Q => match ts with
 | [.adr p, .int j] => ∃ bs : List Bool, M p = some (.lst (bs.map .bl)) ∧ Q (.bl (decide (bs = refL j))) M
 | _ => False
theorem ok__law_refused {P : Program} {w : World} {K : PySem.W.Frag} {mg : Str → Option Value} {base : Heap} {f : Addr} {fd : FuncData} {n : Nat} {P_ z1 z2 z3 z4 z5 z6 : Addr}  (F : Fun K "_law_refused" "_law_refused" s__law_refused f fd) (hm : mg "_law_refused" = some (.ref f)) (hb : Binds K fd ["marks", "which"] []) (Z : Zs K P_ z1 z2 z3 z4 z5 z6 mg)  : Df P w K mg base (n + 1) "_law_refused" ["marks", "which"] sp__law_refused := by
 refine F.dfn hm hb sc__law_refused (by intro ts M Q h; unfold sp__law_refused at h; first | (split at h <;> first | rfl | exact h.elim) | (obtain ⟨_, _, _, _, _, rfl, _⟩ := h; rfl) | (obtain ⟨_, _, _, _, rfl, _⟩ := h; rfl) | (obtain ⟨_, _, _, rfl, _⟩ := h; rfl) | (obtain ⟨_, _, rfl, _⟩ := h; rfl) | (obtain ⟨_, rfl, _⟩ := h; rfl)) ⟨_, fun cdv A outer s H E hr => (ss_one (s_ret (h_cmp (op3_eq hr.units) (hv 0) (h_bin op3_add (h_comp rfl (i_range1 Z.b_range (a_cons h_int a_nil)) (blk_scope (outer := defScope s__law_refused) (N := ["marks", "which"]) (N' := ["k", "which"]) (ix := [none, some 1]) (by decide +kernel) rfl rfl) bt_name (fun _ _ _ _ _ => pg_name (i := 0) (show List.Nodup (["k", "which"] : List Str) by decide +kernel) rfl (Or.inl rfl) (Or.inr rfl)) (fun _ _ _ _ _ => ts_nil) (fun _ _ _ _ _ => (h_cmp (op3_eq hr.units) (hv 0) (hv 1) (nomark _)))) (h_lst (a_cons h_bl a_nil))) (nomark _)))), fun ts M Q h => ?_⟩
 unfold sp__law_refused at h
 split at h
 · rename_i p j
   obtain ⟨bs, hM, h⟩ := h
   walk_at "rd"
   refine ⟨by decide, by decide, fun i ys M' => ys = (((List.range 6).map fun k => decide (((k : Nat) : Int) = j)).take i).map T.bl ∧ M' = M, ⟨rfl, rfl⟩, fun _ _ _ _ => trivial, by decide, ?_, ?_⟩
   · rintro i x ys M' hx ⟨rfl, rfl⟩
     obtain ⟨hi, rfl⟩ := rangeT0_get hx
     have hg : ((List.range 6).map fun k => decide (((k : Nat) : Int) = j))[i]? = some (decide (((i : Nat) : Int) = j)) := by
       rw [List.getElem?_map, List.getElem?_range (by lia)]; rfl
     refine ⟨rfl, by rw [depT_int]; lia, ?_, rfl⟩
     rw [List.take_add_one, hg, List.map_append, eqT_int]
     rfl
   · rintro ys M' ⟨rfl, rfl⟩ r hr
     have e : (((List.range 6).map fun k => decide (((k : Nat) : Int) = j)).take (rangeT 0 (Int.toNat 6)).length) = (List.range 6).map fun k => decide (((k : Nat) : Int) = j) := List.take_of_length_le (by rw [rangeT_length]; simp)
     rw [e]
     refine ⟨by decide, fun p1 hp1 => ?_⟩
     generalize hL : ((List.range 6).map fun k => decide (((k : Nat) : Int) = j)) = L at hp1 ⊢
     have hLl : L.length = 6 := by rw [← hL]; simp
     have n1 : r ≠ p1 := fun z => by rw [← z, updM_same] at hp1; cases hp1
     rw [updM_ne n1]
     simp only [updM_same]
     refine ⟨by rw [List.length_map, hLl]; decide, fun r1 hr1 => ?_⟩
     have hS : Sub M' (updM (updM (updM M' r (.lst (L.map T.bl))) p1 (.lst [T.bl true])) r1 (.lst (L.map T.bl ++ [T.bl true]))) := ((Sub.new hr).newr hp1).newr hr1
     have hp : updM (updM (updM M' r (.lst (L.map T.bl))) p1 (.lst [T.bl true])) r1 (.lst (L.map T.bl ++ [T.bl true])) p = some (.lst (bs.map T.bl)) := hS _ _ hM
     simp only [hp, updM_same]
     have e2 : L.map T.bl ++ [T.bl true] = (L ++ [true]).map T.bl := by rw [List.map_append]; rfl
     rw [e2] at hS ⊢
     refine ⟨pureTs_bools _, pureTs_bools _, by rw [depTs_bools]; lia, ?_⟩
     rw [eqTs_bools]
     have e3 : refL j = L ++ [true] := by unfold refL; rw [hL]
     rw [← e3]
     exact rt3_sub h (by rw [e3]; exact hS)
 · exact h.elim
noncomputable def caK (way n m : Int) (xs ys : List T) (M : MH) (Q : VK3) (E : Str → MH → Prop) : Prop :=
 (∃ ws vs : List Int, xs = ws.map .int ∧ ys = vs.map .int ∧ ws.length < 10000 ∧ vs.length < 10000 ∧
   ((way = 0 ∧ ¬ PlOK n ws ∧ E "NoPlait" M) ∨ (way = 1 ∧ ¬ (1 ≤ n ∧ n ≤ 6 ∧ ws.length ≤ 500 ∧ WordOK n ws) ∧ E "NoPlait" M) ∨
     (way = 2 ∧ (¬ PlOK n ws → E "NoPlait" M) ∧ (PlOK n ws → ¬ PlOK m vs → E "NoPlait" M) ∧ (PlOK n ws → PlOK m vs → n ≠ m → E "NoStep" M) ∧ (PlOK n ws → PlOK m vs → n = m → Q .non M)))) ∨
 (way = 3 ∧ ∃ (pw : Int) (r : List Int), xs = [.int pw, .tup [tupT r]] ∧ r.length < 60 ∧ isFm n pw [r] = false ∧ E "NoPlait" M)
theorem caK_mono {way n m : Int} {xs ys : List T} {M M' : MH} {Q Q' : VK3} {E E' : Str → MH → Prop} (h : caK way n m xs ys M Q E) (hq : Q .non M → Q' .non M') (he : ∀ nm, E nm M → E' nm M') : caK way n m xs ys M' Q' E' := by
 rcases h with ⟨ws, vs, r1, r2, l1, l2, ⟨r, c, e⟩ | ⟨r, c, e⟩ | ⟨r, e0, e1, e2, h⟩⟩ | ⟨r1, pw, r, r2, hl, hf, e⟩
 · exact .inl ⟨ws, vs, r1, r2, l1, l2, .inl ⟨r, c, he _ e⟩⟩
 · exact .inl ⟨ws, vs, r1, r2, l1, l2, .inr (.inl ⟨r, c, he _ e⟩)⟩
 · exact .inl ⟨ws, vs, r1, r2, l1, l2, .inr (.inr ⟨r, fun a => he _ (e0 a), fun a b => he _ (e1 a b), fun a b c => he _ (e2 a b c), fun a b c => hq (h a b c)⟩)⟩
 · exact .inr ⟨r1, pw, r, r2, hl, hf, he _ e⟩
noncomputable def sp__law_called : Sp3X := fun ts M Q E => ∃ way n m xs ys, ts = [.int way, .tup [.int n, .tup xs], .tup [.int m, .tup ys]] ∧ caK way n m xs ys M Q E
theorem ok__law_called {P : Program} {w : World} {K : PySem.W.Frag} {mg : Str → Option Value} {base : Heap} {f : Addr} {fd : FuncData} {n : Nat} {P_ z1 z2 z3 z4 z5 z6 : Addr}  (F : Fun K "_law_called" "_law_called" s__law_called f fd) (hm : mg "_law_called" = some (.ref f)) (hb : Binds K fd ["way", "one", "other"] []) (Z : Zs K P_ z1 z2 z3 z4 z5 z6 mg) (D_form_of : DfX P w K mg base n "form_of" ["plait"] sp_form_of) (D_form_by : DfX P w K mg base n "form_by" ["strands", "word"] sp_form_by) (D_same_form : DfX P w K mg base n "same_form" ["one", "other"] sp_same_form) (D_word_of : DfX P w K mg base n "word_of" ["strands", "form"] sp_word_of) : DfX P w K mg base (n + 1) "_law_called" ["way", "one", "other"] sp__law_called := by
 refine F.dfnX hm hb sc__law_called (by intro ts M Q E h; unfold sp__law_called at h; first | (split at h <;> first | rfl | exact h.elim) | (obtain ⟨_, _, _, _, _, rfl, _⟩ := h; rfl) | (obtain ⟨_, _, _, _, rfl, _⟩ := h; rfl) | (obtain ⟨_, _, _, rfl, _⟩ := h; rfl) | (obtain ⟨_, _, rfl, _⟩ := h; rfl) | (obtain ⟨_, rfl, _⟩ := h; rfl)) ⟨_, fun cdv A outer s H E E3 hr acc accN => (ss_oneX (s_ifX (HT.x (HT.n (h_tcmp (op3_eq hr.units) (hv 0) h_int (nomark _)))) (ss_oneX (s_exprX (h_callX acc rfl D_form_of hr (a_cons (hv 1) a_nil)))) (ss_oneX (s_ifX (HT.x (HT.n (h_tcmp (op3_eq hr.units) (hv 0) h_int (nomark _)))) (ss_oneX (s_exprX (h_callX acc rfl D_form_by hr (a_cons (h_ix (hv 1) h_int) (a_cons (h_ix (hv 1) h_int) a_nil))))) (ss_oneX (s_ifX (HT.x (HT.n (h_tcmp (op3_eq hr.units) (hv 0) h_int (nomark _)))) (ss_oneX (s_exprX (h_callX acc rfl D_same_form hr (a_cons (hv 1) (a_cons (hv 2) a_nil))))) (ss_oneX (s_exprX (h_callX acc rfl D_word_of hr (a_cons (h_ix (hv 1) h_int) (a_cons (h_ix (hv 1) h_int) a_nil))))))))))), fun ts M Q E h => ?_⟩
 unfold sp__law_called at h
 · obtain ⟨way, n, m, xs, ys, rfl, h⟩ := h
   rcases h with ⟨ws, vs, rfl, rfl, l1, l2, ⟨rfl, c, e⟩ | ⟨rfl, c, e⟩ | ⟨rfl, e0, e1, e2, h⟩⟩ | ⟨rfl, pw, r, rfl, hl, hf, e⟩
   · walk_at "rd"
     exact ⟨ws, rfl, l1, fun _ => ⟨M, Sub.refl, e⟩, fun z => absurd z c⟩
   · walk_at "rd"
     exact ⟨ws, rfl, l1, c, ⟨M, Sub.refl, e⟩⟩
   · walk_at "rd"
     exact ⟨n, _, m, _, rfl, ws, vs, rfl, rfl, l1, l2, fun z => ⟨M, Sub.refl, e0 z⟩, fun a b => ⟨M, Sub.refl, e1 a b⟩, fun a b c => ⟨M, Sub.refl, e2 a b c⟩, fun a b c _ => rt3_here (h a b c)⟩
   · walk_at "rd"
     exact ⟨[r], rfl, (show 1 < 60 by decide), (fun x hx => by obtain rfl := List.mem_singleton.mp hx; exact hl), hf, ⟨M, Sub.refl, e⟩⟩
noncomputable abbrev o6 : List Str := ["NoPlait", "NoRoom", "NoStep", "NoNumber", "NoTable", "BadNote"]
noncomputable def sp__law_told : Sp3 := fun ts M Q => ∃ way n m xs ys, ts = [.int way, .tup [.int n, .tup xs], .tup [.int m, .tup ys]] ∧ caK way n m xs ys M (fun _ _ => ∀ p, M p = none → Q (.adr p) (updM M p (.lst []))) (fun nm _ => nm ∈ o6 ∧ ∀ p, M p = none → Q (.adr p) (updM M p (.lst ((xMk o6 nm).map .bl))))
theorem ok__law_told {P : Program} {w : World} {K : PySem.W.Frag} {mg : Str → Option Value} {base : Heap} {f : Addr} {fd : FuncData} {n : Nat} {P_ z1 z2 z3 z4 z5 z6 : Addr}  (F : Fun K "_law_told" "_law_told" s__law_told f fd) (hm : mg "_law_told" = some (.ref f)) (hb : Binds K fd ["way", "one", "other"] []) (Z : Zs K P_ z1 z2 z3 z4 z5 z6 mg) (D__law_called : DfX P w K mg base n "_law_called" ["way", "one", "other"] sp__law_called) (D__law_marks : DfM P w K mg base n "_law_marks" (xDs [("NoPlait", z1), ("NoRoom", z2), ("NoStep", z3), ("NoNumber", z4), ("NoTable", z5), ("BadNote", z6)])) : Df P w K mg base (n + 1) "_law_told" ["way", "one", "other"] sp__law_told := by
 refine F.dfn hm hb sc__law_told (by intro ts M Q h; unfold sp__law_told at h; first | (split at h <;> first | rfl | exact h.elim) | (obtain ⟨_, _, _, _, _, rfl, _⟩ := h; rfl) | (obtain ⟨_, _, _, _, rfl, _⟩ := h; rfl) | (obtain ⟨_, _, _, rfl, _⟩ := h; rfl) | (obtain ⟨_, _, rfl, _⟩ := h; rfl) | (obtain ⟨_, rfl, _⟩ := h; rfl)) ⟨_, fun cdv A outer s H E hr => (ss_cons (s_set (i := 3) (h_lst a_nil) sc__law_told.nd) (ss_cons (s_tryM (im := 3) (ie := 4) (names := ["NoPlait", "NoRoom", "NoStep", "NoNumber", "NoTable", "BadNote"]) (mk := xMk ["NoPlait", "NoRoom", "NoStep", "NoNumber", "NoTable", "BadNote"]) rfl rfl rfl rfl (fun pn xe Ha E3 acc => (ss_oneX (s_exprX (h_callX acc rfl D__law_called hr (a_cons (hv 0) (a_cons (hv 1) (a_cons (hv 2) a_nil))))))) Z.xs.pe Z.xs.p.1 Z.xs.p.2 (Z.xs.names (ns := ["NoPlait", "NoRoom", "NoStep", "NoNumber", "NoTable", "BadNote"]) rfl) D__law_marks hr sc__law_told.nd) (ss_one (s_ret (hv 3))))), fun ts M Q h => ?_⟩
 unfold sp__law_told at h
 · obtain ⟨way, n, m, xs, ys, rfl, h⟩ := h
   walk_at "rd"
   unfold tTryM
   walk_at "rd"
   intro p hp
   refine ⟨way, n, m, xs, ys, rfl, caK_mono h ?_ ?_⟩
   · intro q
     exact rt3_here (q p hp)
   · rintro nm ⟨q1, q2⟩
     exact ⟨q1, fun p' hp' => ⟨_, sub_over hp, q2 p' (none_of (Sub.new hp) hp')⟩⟩
noncomputable def sp_law : Sp3 := fun ts M Q => match ts with
 | [.rd s] => ∃ ns : List Int, s = ns.map .int ∧ Q (.bl true) M
 | _ => False
theorem law_starts (ns : List Int) (M : MH) (Q : VK3) (_ : ns.length ≤ 63) (h : Q (.bl true) M) : sp_law [.rd (ns.map .int)] M Q := ⟨ns, rfl, h⟩
theorem ok_law {P : Program} {w : World} {K : PySem.W.Frag} {mg : Str → Option Value} {base : Heap} {f : Addr} {fd : FuncData} {n : Nat} {P_ z1 z2 z3 z4 z5 z6 : Addr}  (F : Fun K "law" "law" s_law f fd) (Z : Zs K P_ z1 z2 z3 z4 z5 z6 mg) (D__law_state : Df P w K mg base n "_law_state" ["script", "k"] sp__law_state) (D__law_plait : Df P w K mg base n "_law_plait" ["state", "least", "most", "letters"] sp__law_plait) (D__law_bad : Df P w K mg base n "_law_bad" ["state"] sp__law_bad) (D__law_choice : Df P w K mg base n "_law_choice" ["state", "many"] sp__law_choice) (D__law_refused : Df P w K mg base n "_law_refused" ["marks", "which"] sp__law_refused) (D__law_told : Df P w K mg base n "_law_told" ["way", "one", "other"] sp__law_told) : FnOk P w K mg base CX0 (n + 1) f fd ["script"] (dSp K sp_law) := by
 refine F.fnk sc_law (by intro ts M Q h; unfold sp_law at h; first | (split at h <;> first | rfl | exact h.elim) | (obtain ⟨_, _, _, _, _, rfl, _⟩ := h; rfl) | (obtain ⟨_, _, _, _, rfl, _⟩ := h; rfl) | (obtain ⟨_, _, _, rfl, _⟩ := h; rfl) | (obtain ⟨_, _, rfl, _⟩ := h; rfl) | (obtain ⟨_, rfl, _⟩ := h; rfl)) ⟨_, fun cdv A outer s H E hr => (ss_cons (s_set (i := 1) (h_call D__law_state hr (a_cons (hv 0) (a_cons h_int a_nil))) sc_law.nd) (ss_cons (s_set (i := 2) (h_call D__law_plait hr (a_cons (hv 1) (a_cons h_int (a_cons h_int (a_cons h_int a_nil))))) sc_law.nd) (ss_cons (s_set (i := 3) (h_call D__law_bad hr (a_cons (h_call D__law_state hr (a_cons (hv 0) (a_cons h_int a_nil))) a_nil)) sc_law.nd) (ss_cons (s_set (i := 4) (h_tup (a_cons (h_bin op3_add h_int (h_bin op3_mod (h_bin op3_add (h_ix (hv 2) h_int) (h_call D__law_choice hr (a_cons (hv 1) (a_cons h_int a_nil)))) h_int)) (@a_consT _ _ _ _ _ _ _ (h_tup a_nil) a_nil))) sc_law.nd) (ss_cons (s_if (HW.ht (w_or (h_not (h_truth (h_call D__law_refused hr (a_cons (h_call D__law_told hr (a_cons h_int (a_cons (hv 3) (a_cons (hv 2) a_nil)))) (a_cons h_int a_nil))))) (w_or1 (h_not (h_truth (h_call D__law_refused hr (a_cons (h_call D__law_told hr (a_cons h_int (a_cons (hv 3) (a_cons (hv 2) a_nil)))) (a_cons h_int a_nil)))))))) (ss_one (s_ret h_bl)) ss_nil) (ss_cons (s_if (HW.ht (w_or (h_not (h_truth (h_call D__law_refused hr (a_cons (h_call D__law_told hr (a_cons h_int (a_cons (hv 2) (a_cons (hv 3) a_nil)))) (a_cons h_int a_nil))))) (w_or1 (h_not (h_truth (h_call D__law_refused hr (a_cons (h_call D__law_told hr (a_cons h_int (a_cons (hv 2) (a_cons (hv 4) a_nil)))) (a_cons h_int a_nil)))))))) (ss_one (s_ret h_bl)) ss_nil) (ss_cons (s_if (HW.ht (w_and (h_tcmp op3_lt (h_callB call3_len Z.b_len PySem.boot_len (a_cons (h_ix (hv 3) h_int) a_nil)) h_int (nomark _)) (w_and1 (h_not (h_truth (h_call D__law_refused hr (a_cons (h_call D__law_told hr (a_cons h_int (a_cons (hv 3) (a_cons (hv 2) a_nil)))) (a_cons h_int a_nil)))))))) (ss_one (s_ret h_bl)) ss_nil) (ss_cons (s_set (i := 5) (h_tup (a_cons (h_callB (call3_max rfl) Z.b_max PyProof.Rows.boot_max (a_cons h_int (a_cons (h_ix (hv 2) h_int) a_nil))) (a_cons (h_bin op3_add (h_bin op3_mul (h_tup (a_cons h_int (a_cons (h_un un3_neg h_int) a_nil))) h_int) (h_bin op3_mul (h_tup (a_cons h_int a_nil)) (h_bin op3_add h_int (h_call D__law_choice hr (a_cons (hv 1) (a_cons h_int a_nil)))))) a_nil))) sc_law.nd) (ss_cons (s_if (HW.ht (w_or (h_not (h_truth (h_call D__law_refused hr (a_cons (h_call D__law_told hr (a_cons h_int (a_cons (hv 5) (a_cons (hv 2) a_nil)))) (a_cons h_int a_nil))))) (w_or1 (h_tcmp (op3_ne hr.units) (h_call D__law_told hr (a_cons h_int (a_cons (hv 2) (a_cons (hv 2) a_nil)))) (h_lst a_nil) (nomark _))))) (ss_one (s_ret h_bl)) ss_nil) (ss_cons (s_set (i := 6) (h_tupRange1 Z.b_tuple Z.b_range (a_cons h_int a_nil)) sc_law.nd) (ss_cons (s_set (i := 7) (h_ix (@h_lst _ _ _ _ (a_cons (hv 6) (a_cons (h_rev (hv 6) (h_un un3_neg h_int)) (@a_consT _ _ _ _ _ _ _ (h_tup (a_cons h_int (a_cons h_int a_nil))) (@a_consT _ _ _ _ _ _ _ (h_tup (a_cons h_int (a_cons h_int (a_cons h_int a_nil)))) (@a_consT _ _ _ _ _ _ _ (h_tup (a_cons h_int (a_cons h_int (a_cons h_int a_nil)))) (@a_consT _ _ _ _ _ _ _ (h_tup (a_cons h_int (a_cons h_int (a_cons h_int (a_cons h_int a_nil))))) (@a_consT _ _ _ _ _ _ _ (h_tup a_nil) a_nil)))))))) (h_call D__law_choice hr (a_cons (hv 1) (a_cons h_int a_nil)))) sc_law.nd) (ss_one (s_ret (h_call D__law_refused hr (a_cons (h_call D__law_told hr (a_cons h_int (@a_consT _ _ _ _ _ _ _ (h_tup (a_cons h_int (@a_consT _ _ _ _ _ _ _ (h_tup (a_cons (h_bin op3_sub (h_call D__law_choice hr (a_cons (hv 1) (a_cons h_int a_nil))) h_int) (@a_consT _ _ _ _ _ _ _ (h_tup (a_cons (hv 7) a_nil)) a_nil))) a_nil))) (a_cons (hv 2) a_nil)))) (a_cons h_int a_nil)))))))))))))))), fun ts M Q h => ?_⟩
 unfold sp_law at h
 split at h
 · rename_i s
   obtain ⟨ns, rfl, h⟩ := h
   refine seq_cut fun Ka hKa => ?_
   walk_at "rd"
   refine ⟨ns, rfl, by decide, fun p c0 f hp => ?_⟩
   rw [hKa]
   clear hKa
   refine seq_cut fun Kb hKb => ?_
   walk_at "rd"
   refine ⟨c0, f, updM_same, by decide, by decide, by decide, by decide, by decide, fun n w s1 h1 h6 hw hl => ?_⟩
   have ok : PlOK n w := ⟨by lia, by lia, by lia, hw⟩
   simp only [updM_updM]
   rw [hKb]
   clear hKb
   refine seq_cut fun Kc hKc => ?_
   walk_at "rd"
   refine ⟨ns, rfl, by decide, fun p2 k2 f2 hp2 => ?_⟩
   refine ⟨k2, f2, updM_same, fun m v k3 bad hvl => ?_⟩
   simp only [updM_updM]
   have n1 : p ≠ p2 := fun z => by rw [← z, updM_same] at hp2; cases hp2
   rw [hKc]
   clear hKc
   refine seq_cut fun K4 hK4 => ?_
   walk_at "rd"
   refine ⟨s1, f, by rw [updM_ne n1, updM_same], by decide, by decide, fun c s2 c1 c2 => ?_⟩
   have hS : Sub M (updM (updM (updM M p (MO.lst [T.int s1, T.bl f])) p2 (MO.lst [T.int k3, T.bl f2])) p (MO.lst [T.int s2, T.bl f])) := ((Sub.new hp (o := .lst [.int s1, .bl f])).newr hp2 (o := .lst [.int k3, .bl f2])).updF hp
   have hpM : (updM (updM (updM M p (MO.lst [T.int s1, T.bl f])) p2 (MO.lst [T.int k3, T.bl f2])) p (MO.lst [T.int s2, T.bl f])) p = some (.lst [.int s2, .bl f]) := updM_same
   generalize (updM (updM (updM M p (MO.lst [T.int s1, T.bl f])) p2 (MO.lst [T.int k3, T.bl f2])) p (MO.lst [T.int s2, T.bl f])) = M0 at hS hpM ⊢
   have hun : (1 : Int) ≤ 1 + (n + c) % 6 ∧ 1 + (n + c) % 6 ≤ 6 := by lia
   generalize hm2 : 1 + (n + c) % 6 = m2 at hun
   refine ⟨by decide, by decide, ?_⟩
   rw [hK4]
   clear hK4
   have r0 : xMk o6 "NoPlait" = refL 0 := by decide +kernel
   have r2 : xMk o6 "NoStep" = refL 2 := by decide +kernel
   have d0 : decide (xMk o6 "NoPlait" = refL 0) = true := by rw [r0]; exact decide_eq_true rfl
   have d2 : decide (xMk o6 "NoStep" = refL 2) = true := by rw [r2]; exact decide_eq_true rfl
   have okm : PlOK m2 [] := ⟨hun.1, hun.2, by decide, WordOK.nil⟩
   have wl : w.length < 10000 := by lia
   refine seq_cut fun K5 hK5 => ?_
   walk_at "rd"
   rw [hm2]
   refine ⟨_, _, _, _, _, rfl, Or.inl ⟨v, w, rfl, rfl, hvl, wl, .inl ⟨rfl, bad, .head _, fun p3 hp3 => ⟨_, updM_same, ?_⟩⟩⟩⟩
   rw [d0]
   dsimp only
   rw [if_neg (by decide)]
   have hS3 := hS.newr hp3 (o := MO.lst (List.map T.bl (xMk o6 "NoPlait")))
   have hpM3 := (Sub.new hp3 (o := MO.lst (List.map T.bl (xMk o6 "NoPlait")))) _ _ hpM
   generalize updM M0 p3 (MO.lst (List.map T.bl (xMk o6 "NoPlait"))) = M3 at hS3 hpM3 ⊢
   refine ⟨_, _, _, _, _, rfl, Or.inl ⟨v, w, rfl, rfl, hvl, wl, .inr (.inr ⟨rfl, fun _ => ⟨.head _, fun p4 hp4 => ⟨_, updM_same, ?_⟩⟩, fun z => absurd z bad, fun z => absurd z bad, fun z => absurd z bad⟩)⟩⟩
   rw [d0]
   dsimp only
   rw [if_neg (by decide)]
   have hS4 := hS3.newr hp4 (o := MO.lst (List.map T.bl (xMk o6 "NoPlait")))
   have hpM4 := (Sub.new hp4 (o := MO.lst (List.map T.bl (xMk o6 "NoPlait")))) _ _ hpM3
   generalize updM M3 p4 (MO.lst (List.map T.bl (xMk o6 "NoPlait"))) = M4 at hS4 hpM4 ⊢
   rw [hK5]
   clear hK5
   refine seq_cut fun K6 hK6 => ?_
   walk_at "rd"
   refine ⟨_, _, _, _, _, rfl, Or.inl ⟨w, v, rfl, rfl, wl, hvl, .inr (.inr ⟨rfl, fun z => absurd ok z, fun _ _ => ⟨.head _, fun p5 hp5 => ⟨_, updM_same, ?_⟩⟩, fun _ z => absurd z bad, fun _ z => absurd z bad⟩)⟩⟩
   rw [d0]
   dsimp only
   rw [if_neg (by decide)]
   have hS5 := hS4.newr hp5 (o := MO.lst (List.map T.bl (xMk o6 "NoPlait")))
   have hpM5 := (Sub.new hp5 (o := MO.lst (List.map T.bl (xMk o6 "NoPlait")))) _ _ hpM4
   generalize updM M4 p5 (MO.lst (List.map T.bl (xMk o6 "NoPlait"))) = M5 at hS5 hpM5 ⊢
   refine ⟨_, _, _, _, _, rfl, Or.inl ⟨w, [], rfl, rfl, wl, (by decide), .inr (.inr ⟨rfl, fun z => absurd ok z, fun _ z => absurd okm z, fun _ _ _ => ⟨.tail _ (.tail _ (.head _)), fun p6 hp6 => ⟨_, updM_same, ?_⟩⟩, fun _ _ z => absurd z (by lia)⟩)⟩⟩
   rw [d2]
   dsimp only
   rw [if_neg (by decide)]
   have hS6 := hS5.newr hp6 (o := MO.lst (List.map T.bl (xMk o6 "NoStep")))
   have hpM6 := (Sub.new hp6 (o := MO.lst (List.map T.bl (xMk o6 "NoStep")))) _ _ hpM5
   generalize updM M5 p6 (MO.lst (List.map T.bl (xMk o6 "NoStep"))) = M6 at hS6 hpM6 ⊢
   rw [hK6]
   clear hK6
   refine seq_cut fun K7 hK7 => ?_
   have hk7 : ∀ M7, Sub M M7 → M7 p = some (.lst [.int s2, .bl f]) → K7 [some (T.rd (List.map T.int ns)), some (T.adr p), some (T.tup [T.int n, T.tup (List.map T.int w)]), some (T.tup [T.int m, T.tup (List.map T.int v)]), some (T.tup [T.int m2, T.tup []]), none, none, none] M7 := by
     intro M7 hS7 hpM7
     rw [hK7]
     clear hK7
     refine seq_cut fun K8 hK8 => ?_
     walk_at "rd"
     refine ⟨by decide, by decide, by decide, by decide, by decide, s2, f, hpM7, by decide, by decide, fun d s3 d0' d1' => ?_⟩
     dsimp only
     have eL : (List.replicate (Int.toNat 250) [T.int 1, T.int (-1)]).flatten ++ (List.replicate (1 + d).toNat [T.int 1]).flatten = ((List.replicate 250 [1, -1]).flatten ++ (List.replicate (1 + d).toNat [1]).flatten : List Int).map T.int := by
       rw [List.map_append, ← rep_map, ← rep_map]; rfl
     have lL : ((List.replicate 250 [1, -1]).flatten ++ (List.replicate (1 + d).toNat [1]).flatten : List Int).length = 500 + (1 + d).toNat := by
       rw [List.length_append, rep_len, rep_len]; show 250 * 2 + (1 + d).toNat * 1 = _; lia
     have l1 : (List.replicate (Int.toNat 250) [T.int 1, T.int (-1)]).flatten.length + (List.replicate (1 + d).toNat [T.int 1]).flatten.length = 500 + (1 + d).toNat := by
       rw [← List.length_append, eL, List.length_map, lL]
     rw [eL]
     have hS8 := hS7.updF hp (o := MO.lst [T.int s3, T.bl f])
     have hpM8 : updM M7 p (MO.lst [T.int s3, T.bl f]) p = some (.lst [.int s3, .bl f]) := updM_same
     generalize updM M7 p (MO.lst [T.int s3, T.bl f]) = M8 at hS8 hpM8 ⊢
     generalize ((List.replicate 250 [1, -1]).flatten ++ (List.replicate (1 + d).toNat [1]).flatten : List Int) = L at lL ⊢
     refine ⟨by lia, by lia, by rw [sizeLine_eq]; lia, by rw [l1, sizeLine_eq]; lia, by decide, ?_⟩
     generalize (if n > 2 then n else 2) = n8
     rw [hK8]
     clear hK8
     refine seq_cut fun K9 hK9 => ?_
     walk_at "rd"
     refine ⟨_, _, _, _, _, rfl, Or.inl ⟨L, w, rfl, rfl, (by lia), wl, .inr (.inl ⟨rfl, fun z => absurd z.2.2.1 (by lia), .head _, fun p9 hp9 => ⟨_, updM_same, ?_⟩⟩)⟩⟩
     rw [d0]
     dsimp only
     rw [if_neg (by decide)]
     have hS9 := hS8.newr hp9 (o := MO.lst (List.map T.bl (xMk o6 "NoPlait")))
     have hpM9 := (Sub.new hp9 (o := MO.lst (List.map T.bl (xMk o6 "NoPlait")))) _ _ hpM8
     generalize updM M8 p9 (MO.lst (List.map T.bl (xMk o6 "NoPlait"))) = M9 at hS9 hpM9 ⊢
     refine ⟨_, _, _, _, _, rfl, Or.inl ⟨w, w, rfl, rfl, wl, wl, .inr (.inr ⟨rfl, fun z => absurd ok z, fun _ z => absurd ok z, fun _ _ z => absurd rfl z, fun _ _ _ p10 hp10 => ?_⟩)⟩⟩
     dsimp only
     intro p11 hp11
     have x1 : p10 ≠ p11 := fun z => by rw [← z, updM_same] at hp11; cases hp11
     rw [updM_ne x1, updM_same, updM_same]
     dsimp only
     refine ⟨rfl, rfl, by decide, ?_⟩
     rw [if_neg (by decide)]
     have hS11 := (hS9.newr hp10 (o := MO.lst [])).newr hp11 (o := MO.lst [])
     have hpM11 := ((Sub.new hp10 (o := MO.lst [])).newr hp11 (o := MO.lst [])) _ _ hpM9
     generalize updM (updM M9 p10 (MO.lst [])) p11 (MO.lst []) = M11 at hS11 hpM11 ⊢
     rw [hK9]
     clear hK9
     refine seq_cut2 fun K12 hK12 => ?_
     walk_at "rd"
     refine ⟨⟨by decide, by decide⟩, by decide, by decide, by decide, by decide, by decide, fun p12 hp12 => ?_⟩
     have eR : [T.tup (rangeT 0 (Int.toNat 3)), T.tup (rangeT 0 (Int.toNat 3)).reverse, T.tup [T.int 0, T.int 2], T.tup [T.int 0, T.int 2, T.int 2], T.tup [T.int 1, T.int 2, T.int 3], T.tup [T.int 1, T.int 2, T.int 0, T.int 3], T.tup []] = ([[0, 1, 2], [2, 1, 0], [0, 2], [0, 2, 2], [1, 2, 3], [1, 2, 0, 3], []] : List (List Int)).map tupT := rfl
     have bR : ∀ r ∈ ([[0, 1, 2], [2, 1, 0], [0, 2], [0, 2, 2], [1, 2, 3], [1, 2, 0, 3], []] : List (List Int)), stB 3 r = false ∧ r.length < 60 := by decide
     have lR : ([[0, 1, 2], [2, 1, 0], [0, 2], [0, 2, 2], [1, 2, 3], [1, 2, 0, 3], []] : List (List Int)).length = 7 := rfl
     rw [eR]
     generalize ([[0, 1, 2], [2, 1, 0], [0, 2], [0, 2, 2], [1, 2, 3], [1, 2, 0, 3], []] : List (List Int)) = RR at bR lR ⊢
     have n12 : p ≠ p12 := fun z => by rw [← z, hpM11] at hp12; cases hp12
     refine ⟨s3, f, by rw [updM_ne n12, hpM11], by decide, by decide, fun c7 s7 c70 c71 => ?_⟩
     dsimp only
     rw [updM_ne n12.symm, updM_same]
     dsimp only
     have ha := tupT_at (R := RR) (i := c7.toNat) (by lia)
     rw [Int.toNat_of_nonneg c70] at ha
     rw [ha]
     have hb := bR _ (getD_mem (R := RR) (i := c7.toNat) (by lia))
     generalize RR.getD c7.toNat [] = r at hb ⊢
     dsimp only
     have hS12 := (hS11.newr hp12 (o := MO.lst (RR.map tupT))).updF hp (o := MO.lst [T.int s7, T.bl f])
     have hpM12 : updM (updM M11 p12 (MO.lst (RR.map tupT))) p (MO.lst [T.int s7, T.bl f]) p = some (.lst [.int s7, .bl f]) := updM_same
     generalize updM (updM M11 p12 (MO.lst (RR.map tupT))) p (MO.lst [T.int s7, T.bl f]) = M12 at hS12 hpM12 ⊢
     rw [hK12]
     clear hK12
     walk_at "rd"
     refine ⟨s7, f, hpM12, by decide, by decide, fun c8 s8 c80 c81 => ⟨by decide, by decide, by decide, ?_⟩⟩
     have hS13 := hS12.updF hp (o := MO.lst [T.int s8, T.bl f])
     generalize updM M12 p (MO.lst [T.int s8, T.bl f]) = M13 at hS13 ⊢
     have hfm : isFm 3 (c8 - 2) [r] = false := by
       unfold isFm
       rw [if_neg (by lia), if_neg]
       rw [List.all_cons, hb.1, Bool.false_and]
       decide
     refine ⟨_, _, _, _, _, rfl, Or.inr ⟨rfl, c8 - 2, r, rfl, hb.2, hfm, .head _, fun p14 hp14 => ⟨_, updM_same, ?_⟩⟩⟩
     rw [d0]
     exact rt3_sub h (hS13.newr hp14)
   clear hK7
   walk_at "rd"
   refine ite2 (fun hlt => ?_) (fun _ => hk7 _ hS6 hpM6)
   refine ⟨_, _, _, _, _, rfl, Or.inl ⟨v, w, rfl, rfl, hvl, wl, .inr (.inl ⟨rfl, fun z => bad ⟨z.1, z.2.1, by lia, z.2.2.2⟩, .head _, fun p7 hp7 => ⟨_, updM_same, ?_⟩⟩)⟩⟩
   rw [d0]
   dsimp only
   rw [if_neg (by decide)]
   exact hk7 _ (hS6.newr hp7) ((Sub.new hp7) _ _ hpM6)
 · exact h.elim
theorem all_mk {l : PySem.W.OpenLaw} {w : World} {K : PySem.W.Frag} {h : Heap} {mg : Str → Option Value} {fa f1 f2 f3 f4 f5 f6 f7 f8 f9 f10 f11 f12 f13 f14 f15 f16 f17 f18 f19 f20 f21 f22 f23 f24 f25 f26 f27 f28 f29 f30 f31 f32 f33 f34 f35 : Addr} (X : K.In h) (G : h.Ns mainGlobals mg) (hfa : mg "law" = some (.ref fa))
   {od1 od2 od3 od4 od5 od6 od7 od8 od9 od10 od11 od12 od13 od14 od15 od16 od17 od18 od19 od20 od21 od22 od23 od24 od25 od26 od27 od28 od29 od30 od31 od32 od33 od34 od35 an1 an2 an3 an4 an5 an6 an7 an8 an9 an10 an11 an12 an13 an14 an15 an16 an17 an18 an19 an20 an21 an22 an23 an24 an25 an26 an27 an28 an29 an30 an31 an32 an33 an34 an35 : Option Addr} {sl1 sl2 sl3 sl4 sl5 sl6 sl7 sl8 sl9 sl10 sl11 sl12 sl13 sl14 sl15 sl16 sl17 sl18 sl19 sl20 sl21 sl22 sl23 sl24 sl25 sl26 sl27 sl28 sl29 sl30 sl31 sl32 sl33 sl34 sl35 : Array (Option Value)} {oc1 oc2 oc3 oc4 oc5 oc6 oc7 oc8 oc9 oc10 oc11 oc12 oc13 oc14 oc15 oc16 oc17 oc18 oc19 oc20 oc21 oc22 oc23 oc24 oc25 oc26 oc27 oc28 oc29 oc30 oc31 oc32 oc33 oc34 oc35 kV1 kV2 kV3 kV4 kV5 kV6 kV7 kV8 kV9 kV10 kV11 kV12 kV13 kV14 kV15 kV16 kV17 kV18 kV19 kV20 kV21 kV22 kV23 kV24 kV25 kV26 kV27 kV28 kV29 kV30 kV31 kV32 kV33 kV34 kV35 dc1 dc2 dc3 dc4 dc5 dc6 dc7 dc8 dc9 dc10 dc11 dc12 dc13 dc14 dc15 dc16 dc17 dc18 dc19 dc20 dc21 dc22 dc23 dc24 dc25 dc26 dc27 dc28 dc29 dc30 dc31 dc32 dc33 dc34 dc35 pm1 pm2 pm3 pm4 pm5 pm6 pm7 pm8 pm9 pm10 pm11 pm12 pm13 pm14 pm15 pm16 pm17 pm18 pm19 pm20 pm21 pm22 pm23 pm24 pm25 pm26 pm27 pm28 pm29 pm30 pm31 pm32 pm33 pm34 pm35 cd1 cd2 cd3 cd4 cd5 cd6 cd7 cd8 cd9 cd10 cd11 cd12 cd13 cd14 cd15 cd16 cd17 cd18 cd19 cd20 cd21 cd22 cd23 cd24 cd25 cd26 cd27 cd28 cd29 cd30 cd31 cd32 cd33 cd34 cd35 ct1 ct2 ct3 ct4 ct5 ct6 ct7 ct8 ct9 ct10 ct11 ct12 ct13 ct14 ct15 ct16 ct17 ct18 ct19 ct20 ct21 ct22 ct23 ct24 ct25 ct26 ct27 ct28 ct29 ct30 ct31 ct32 ct33 ct34 ct35 : Value}
   (a1 : PySem.W.nsIn K mainGlobals "is_letter" = some (some (.ref f1))) (l1 : K.lookup f1 = some ⟨oc1, od1, .func (PySem.W.fnOf "is_letter" "is_letter" (defArgs s_is_letter) (defBody s_is_letter) (defScope s_is_letter) .none kV1 dc1 pm1 an1 cd1 ct1), sl1⟩) (c1 : PySem.W.codeIn K cd1 "is_letter" = true) (k1 : PySem.W.keepIn K (.ref f1) = true)
   (a2 : PySem.W.nsIn K mainGlobals "is_word" = some (some (.ref f2))) (l2 : K.lookup f2 = some ⟨oc2, od2, .func (PySem.W.fnOf "is_word" "is_word" (defArgs s_is_word) (defBody s_is_word) (defScope s_is_word) .none kV2 dc2 pm2 an2 cd2 ct2), sl2⟩) (c2 : PySem.W.codeIn K cd2 "is_word" = true) (k2 : PySem.W.keepIn K (.ref f2) = true)
   (a3 : PySem.W.nsIn K mainGlobals "is_plait" = some (some (.ref f3))) (l3 : K.lookup f3 = some ⟨oc3, od3, .func (PySem.W.fnOf "is_plait" "is_plait" (defArgs s_is_plait) (defBody s_is_plait) (defScope s_is_plait) .none kV3 dc3 pm3 an3 cd3 ct3), sl3⟩) (c3 : PySem.W.codeIn K cd3 "is_plait" = true) (k3 : PySem.W.keepIn K (.ref f3) = true)
   (a4 : PySem.W.nsIn K mainGlobals "looked" = some (some (.ref f4))) (l4 : K.lookup f4 = some ⟨oc4, od4, .func (PySem.W.fnOf "looked" "looked" (defArgs s_looked) (defBody s_looked) (defScope s_looked) .none kV4 dc4 pm4 an4 cd4 ct4), sl4⟩) (c4 : PySem.W.codeIn K cd4 "looked" = true) (k4 : PySem.W.keepIn K (.ref f4) = true)
   (a5 : PySem.W.nsIn K mainGlobals "looked_both" = some (some (.ref f5))) (l5 : K.lookup f5 = some ⟨oc5, od5, .func (PySem.W.fnOf "looked_both" "looked_both" (defArgs s_looked_both) (defBody s_looked_both) (defScope s_looked_both) .none kV5 dc5 pm5 an5 cd5 ct5), sl5⟩) (c5 : PySem.W.codeIn K cd5 "looked_both" = true) (k5 : PySem.W.keepIn K (.ref f5) = true)
   (a6 : PySem.W.nsIn K mainGlobals "contrary" = some (some (.ref f6))) (l6 : K.lookup f6 = some ⟨oc6, od6, .func (PySem.W.fnOf "contrary" "contrary" (defArgs s_contrary) (defBody s_contrary) (defScope s_contrary) .none kV6 dc6 pm6 an6 cd6 ct6), sl6⟩) (c6 : PySem.W.codeIn K cd6 "contrary" = true) (k6 : PySem.W.keepIn K (.ref f6) = true)
   (a7 : PySem.W.nsIn K mainGlobals "exchanged" = some (some (.ref f7))) (l7 : K.lookup f7 = some ⟨oc7, od7, .func (PySem.W.fnOf "exchanged" "exchanged" (defArgs s_exchanged) (defBody s_exchanged) (defScope s_exchanged) .none kV7 dc7 pm7 an7 cd7 ct7), sl7⟩) (c7 : PySem.W.codeIn K cd7 "exchanged" = true) (k7 : PySem.W.keepIn K (.ref f7) = true)
   (a8 : PySem.W.nsIn K mainGlobals "places_in" = some (some (.ref f8))) (l8 : K.lookup f8 = some ⟨oc8, od8, .func (PySem.W.fnOf "places_in" "places_in" (defArgs s_places_in) (defBody s_places_in) (defScope s_places_in) .none kV8 dc8 pm8 an8 cd8 ct8), sl8⟩) (c8 : PySem.W.codeIn K cd8 "places_in" = true) (k8 : PySem.W.keepIn K (.ref f8) = true)
   (a9 : PySem.W.nsIn K mainGlobals "plain_order" = some (some (.ref f9))) (l9 : K.lookup f9 = some ⟨oc9, od9, .func (PySem.W.fnOf "plain_order" "plain_order" (defArgs s_plain_order) (defBody s_plain_order) (defScope s_plain_order) .none kV9 dc9 pm9 an9 cd9 ct9), sl9⟩) (c9 : PySem.W.codeIn K cd9 "plain_order" = true) (k9 : PySem.W.keepIn K (.ref f9) = true)
   (a10 : PySem.W.nsIn K mainGlobals "half_twist" = some (some (.ref f10))) (l10 : K.lookup f10 = some ⟨oc10, od10, .func (PySem.W.fnOf "half_twist" "half_twist" (defArgs s_half_twist) (defBody s_half_twist) (defScope s_half_twist) .none kV10 dc10 pm10 an10 cd10 ct10), sl10⟩) (c10 : PySem.W.codeIn K cd10 "half_twist" = true) (k10 : PySem.W.keepIn K (.ref f10) = true)
   (a11 : PySem.W.nsIn K mainGlobals "can_begin" = some (some (.ref f11))) (l11 : K.lookup f11 = some ⟨oc11, od11, .func (PySem.W.fnOf "can_begin" "can_begin" (defArgs s_can_begin) (defBody s_can_begin) (defScope s_can_begin) .none kV11 dc11 pm11 an11 cd11 ct11), sl11⟩) (c11 : PySem.W.codeIn K cd11 "can_begin" = true) (k11 : PySem.W.keepIn K (.ref f11) = true)
   (a12 : PySem.W.nsIn K mainGlobals "letters_in" = some (some (.ref f12))) (l12 : K.lookup f12 = some ⟨oc12, od12, .func (PySem.W.fnOf "letters_in" "letters_in" (defArgs s_letters_in) (defBody s_letters_in) (defScope s_letters_in) .none kV12 dc12 pm12 an12 cd12 ct12), sl12⟩) (c12 : PySem.W.codeIn K cd12 "letters_in" = true) (k12 : PySem.W.keepIn K (.ref f12) = true)
   (a13 : PySem.W.nsIn K mainGlobals "flipped_order" = some (some (.ref f13))) (l13 : K.lookup f13 = some ⟨oc13, od13, .func (PySem.W.fnOf "flipped_order" "flipped_order" (defArgs s_flipped_order) (defBody s_flipped_order) (defScope s_flipped_order) .none kV13 dc13 pm13 an13 cd13 ct13), sl13⟩) (c13 : PySem.W.codeIn K cd13 "flipped_order" = true) (k13 : PySem.W.keepIn K (.ref f13) = true)
   (a14 : PySem.W.nsIn K mainGlobals "order_for" = some (some (.ref f14))) (l14 : K.lookup f14 = some ⟨oc14, od14, .func (PySem.W.fnOf "order_for" "order_for" (defArgs s_order_for) (defBody s_order_for) (defScope s_order_for) .none kV14 dc14 pm14 an14 cd14 ct14), sl14⟩) (c14 : PySem.W.codeIn K cd14 "order_for" = true) (k14 : PySem.W.keepIn K (.ref f14) = true)
   (a15 : PySem.W.nsIn K mainGlobals "moved_ahead" = some (some (.ref f15))) (l15 : K.lookup f15 = some ⟨oc15, od15, .func (PySem.W.fnOf "moved_ahead" "moved_ahead" (defArgs s_moved_ahead) (defBody s_moved_ahead) (defScope s_moved_ahead) .none kV15 dc15 pm15 an15 cd15 ct15), sl15⟩) (c15 : PySem.W.codeIn K cd15 "moved_ahead" = true) (k15 : PySem.W.keepIn K (.ref f15) = true)
   (a16 : PySem.W.nsIn K mainGlobals "put_behind" = some (some (.ref f16))) (l16 : K.lookup f16 = some ⟨oc16, od16, .func (PySem.W.fnOf "put_behind" "put_behind" (defArgs s_put_behind) (defBody s_put_behind) (defScope s_put_behind) .none kV16 dc16 pm16 an16 cd16 ct16), sl16⟩) (c16 : PySem.W.codeIn K cd16 "put_behind" = true) (k16 : PySem.W.keepIn K (.ref f16) = true)
   (a17 : PySem.W.nsIn K mainGlobals "form_by_letters" = some (some (.ref f17))) (l17 : K.lookup f17 = some ⟨oc17, od17, .func (PySem.W.fnOf "form_by_letters" "form_by_letters" (defArgs s_form_by_letters) (defBody s_form_by_letters) (defScope s_form_by_letters) .none kV17 dc17 pm17 an17 cd17 ct17), sl17⟩) (c17 : PySem.W.codeIn K cd17 "form_by_letters" = true) (k17 : PySem.W.keepIn K (.ref f17) = true)
   (a18 : PySem.W.nsIn K mainGlobals "form_of" = some (some (.ref f18))) (l18 : K.lookup f18 = some ⟨oc18, od18, .func (PySem.W.fnOf "form_of" "form_of" (defArgs s_form_of) (defBody s_form_of) (defScope s_form_of) .none kV18 dc18 pm18 an18 cd18 ct18), sl18⟩) (c18 : PySem.W.codeIn K cd18 "form_of" = true) (k18 : PySem.W.keepIn K (.ref f18) = true)
   (a19 : PySem.W.nsIn K mainGlobals "form_by" = some (some (.ref f19))) (l19 : K.lookup f19 = some ⟨oc19, od19, .func (PySem.W.fnOf "form_by" "form_by" (defArgs s_form_by) (defBody s_form_by) (defScope s_form_by) .none kV19 dc19 pm19 an19 cd19 ct19), sl19⟩) (c19 : PySem.W.codeIn K cd19 "form_by" = true) (k19 : PySem.W.keepIn K (.ref f19) = true)
   (a20 : PySem.W.nsIn K mainGlobals "same_form" = some (some (.ref f20))) (l20 : K.lookup f20 = some ⟨oc20, od20, .func (PySem.W.fnOf "same_form" "same_form" (defArgs s_same_form) (defBody s_same_form) (defScope s_same_form) .none kV20 dc20 pm20 an20 cd20 ct20), sl20⟩) (c20 : PySem.W.codeIn K cd20 "same_form" = true) (k20 : PySem.W.keepIn K (.ref f20) = true)
   (a21 : PySem.W.nsIn K mainGlobals "can_stand" = some (some (.ref f21))) (l21 : K.lookup f21 = some ⟨oc21, od21, .func (PySem.W.fnOf "can_stand" "can_stand" (defArgs s_can_stand) (defBody s_can_stand) (defScope s_can_stand) .none kV21 dc21 pm21 an21 cd21 ct21), sl21⟩) (c21 : PySem.W.codeIn K cd21 "can_stand" = true) (k21 : PySem.W.keepIn K (.ref f21) = true)
   (a22 : PySem.W.nsIn K mainGlobals "can_stand_behind" = some (some (.ref f22))) (l22 : K.lookup f22 = some ⟨oc22, od22, .func (PySem.W.fnOf "can_stand_behind" "can_stand_behind" (defArgs s_can_stand_behind) (defBody s_can_stand_behind) (defScope s_can_stand_behind) .none kV22 dc22 pm22 an22 cd22 ct22), sl22⟩) (c22 : PySem.W.codeIn K cd22 "can_stand_behind" = true) (k22 : PySem.W.keepIn K (.ref f22) = true)
   (a23 : PySem.W.nsIn K mainGlobals "is_form" = some (some (.ref f23))) (l23 : K.lookup f23 = some ⟨oc23, od23, .func (PySem.W.fnOf "is_form" "is_form" (defArgs s_is_form) (defBody s_is_form) (defScope s_is_form) .none kV23 dc23 pm23 an23 cd23 ct23), sl23⟩) (c23 : PySem.W.codeIn K cd23 "is_form" = true) (k23 : PySem.W.keepIn K (.ref f23) = true)
   (a24 : PySem.W.nsIn K mainGlobals "word_of" = some (some (.ref f24))) (l24 : K.lookup f24 = some ⟨oc24, od24, .func (PySem.W.fnOf "word_of" "word_of" (defArgs s_word_of) (defBody s_word_of) (defScope s_word_of) .none kV24 dc24 pm24 an24 cd24 ct24), sl24⟩) (c24 : PySem.W.codeIn K cd24 "word_of" = true) (k24 : PySem.W.keepIn K (.ref f24) = true)
   (a25 : PySem.W.nsIn K mainGlobals "_law_cell_at" = some (some (.ref f25))) (l25 : K.lookup f25 = some ⟨oc25, od25, .func (PySem.W.fnOf "_law_cell_at" "_law_cell_at" (defArgs s__law_cell_at) (defBody s__law_cell_at) (defScope s__law_cell_at) .none kV25 dc25 pm25 an25 cd25 ct25), sl25⟩) (c25 : PySem.W.codeIn K cd25 "_law_cell_at" = true) (k25 : PySem.W.keepIn K (.ref f25) = true)
   (a26 : PySem.W.nsIn K mainGlobals "_law_state" = some (some (.ref f26))) (l26 : K.lookup f26 = some ⟨oc26, od26, .func (PySem.W.fnOf "_law_state" "_law_state" (defArgs s__law_state) (defBody s__law_state) (defScope s__law_state) .none kV26 dc26 pm26 an26 cd26 ct26), sl26⟩) (c26 : PySem.W.codeIn K cd26 "_law_state" = true) (k26 : PySem.W.keepIn K (.ref f26) = true)
   (a27 : PySem.W.nsIn K mainGlobals "_law_choice" = some (some (.ref f27))) (l27 : K.lookup f27 = some ⟨oc27, od27, .func (PySem.W.fnOf "_law_choice" "_law_choice" (defArgs s__law_choice) (defBody s__law_choice) (defScope s__law_choice) .none kV27 dc27 pm27 an27 cd27 ct27), sl27⟩) (c27 : PySem.W.codeIn K cd27 "_law_choice" = true) (k27 : PySem.W.keepIn K (.ref f27) = true)
   (a28 : PySem.W.nsIn K mainGlobals "_law_word" = some (some (.ref f28))) (l28 : K.lookup f28 = some ⟨oc28, od28, .func (PySem.W.fnOf "_law_word" "_law_word" (defArgs s__law_word) (defBody s__law_word) (defScope s__law_word) .none kV28 dc28 pm28 an28 cd28 ct28), sl28⟩) (c28 : PySem.W.codeIn K cd28 "_law_word" = true) (k28 : PySem.W.keepIn K (.ref f28) = true)
   (a29 : PySem.W.nsIn K mainGlobals "_law_plait" = some (some (.ref f29))) (l29 : K.lookup f29 = some ⟨oc29, od29, .func (PySem.W.fnOf "_law_plait" "_law_plait" (defArgs s__law_plait) (defBody s__law_plait) (defScope s__law_plait) .none kV29 dc29 pm29 an29 cd29 ct29), sl29⟩) (c29 : PySem.W.codeIn K cd29 "_law_plait" = true) (k29 : PySem.W.keepIn K (.ref f29) = true)
   (a30 : PySem.W.nsIn K mainGlobals "_law_bad" = some (some (.ref f30))) (l30 : K.lookup f30 = some ⟨oc30, od30, .func (PySem.W.fnOf "_law_bad" "_law_bad" (defArgs s__law_bad) (defBody s__law_bad) (defScope s__law_bad) .none kV30 dc30 pm30 an30 cd30 ct30), sl30⟩) (c30 : PySem.W.codeIn K cd30 "_law_bad" = true) (k30 : PySem.W.keepIn K (.ref f30) = true)
   (a31 : PySem.W.nsIn K mainGlobals "_law_marks" = some (some (.ref f31))) (l31 : K.lookup f31 = some ⟨oc31, od31, .func (PySem.W.fnOf "_law_marks" "_law_marks" (defArgs s__law_marks) (defBody s__law_marks) (defScope s__law_marks) .none kV31 dc31 pm31 an31 cd31 ct31), sl31⟩) (c31 : PySem.W.codeIn K cd31 "_law_marks" = true) (k31 : PySem.W.keepIn K (.ref f31) = true)
   (a32 : PySem.W.nsIn K mainGlobals "_law_refused" = some (some (.ref f32))) (l32 : K.lookup f32 = some ⟨oc32, od32, .func (PySem.W.fnOf "_law_refused" "_law_refused" (defArgs s__law_refused) (defBody s__law_refused) (defScope s__law_refused) .none kV32 dc32 pm32 an32 cd32 ct32), sl32⟩) (c32 : PySem.W.codeIn K cd32 "_law_refused" = true) (k32 : PySem.W.keepIn K (.ref f32) = true)
   (a33 : PySem.W.nsIn K mainGlobals "_law_called" = some (some (.ref f33))) (l33 : K.lookup f33 = some ⟨oc33, od33, .func (PySem.W.fnOf "_law_called" "_law_called" (defArgs s__law_called) (defBody s__law_called) (defScope s__law_called) .none kV33 dc33 pm33 an33 cd33 ct33), sl33⟩) (c33 : PySem.W.codeIn K cd33 "_law_called" = true) (k33 : PySem.W.keepIn K (.ref f33) = true)
   (a34 : PySem.W.nsIn K mainGlobals "_law_told" = some (some (.ref f34))) (l34 : K.lookup f34 = some ⟨oc34, od34, .func (PySem.W.fnOf "_law_told" "_law_told" (defArgs s__law_told) (defBody s__law_told) (defScope s__law_told) .none kV34 dc34 pm34 an34 cd34 ct34), sl34⟩) (c34 : PySem.W.codeIn K cd34 "_law_told" = true) (k34 : PySem.W.keepIn K (.ref f34) = true)
   (a35 : PySem.W.nsIn K mainGlobals "law" = some (some (.ref f35))) (l35 : K.lookup f35 = some ⟨oc35, od35, .func (PySem.W.fnOf "law" "law" (defArgs s_law) (defBody s_law) (defScope s_law) .none kV35 dc35 pm35 an35 cd35 ct35), sl35⟩) (c35 : PySem.W.codeIn K cd35 "law" = true) (k35 : PySem.W.keepIn K (.ref f35) = true)
   (z_ValueError : PySem.W.nsIn K mainGlobals "ValueError" = some none)
   (z_abs : PySem.W.nsIn K mainGlobals "abs" = some none)
   (z_all : PySem.W.nsIn K mainGlobals "all" = some none)
   (z_isinstance : PySem.W.nsIn K mainGlobals "isinstance" = some none)
   (z_len : PySem.W.nsIn K mainGlobals "len" = some none)
   (z_list : PySem.W.nsIn K mainGlobals "list" = some none)
   (z_max : PySem.W.nsIn K mainGlobals "max" = some none)
   (z_range : PySem.W.nsIn K mainGlobals "range" = some none)
   (z_reversed : PySem.W.nsIn K mainGlobals "reversed" = some none)
   (z_sorted : PySem.W.nsIn K mainGlobals "sorted" = some none)
   (z_tuple : PySem.W.nsIn K mainGlobals "tuple" = some none)
   {tk_MOST_LETTERS : Tok} (g_MOST_LETTERS : PySem.W.nsIn K mainGlobals "MOST_LETTERS" = some (some (.int 16 tk_MOST_LETTERS)))
   {tk_MOST_LETTERS_IN_FORM : Tok} (g_MOST_LETTERS_IN_FORM : PySem.W.nsIn K mainGlobals "MOST_LETTERS_IN_FORM" = some (some (.int 500 tk_MOST_LETTERS_IN_FORM)))
   {tk_MOST_STRANDS : Tok} (g_MOST_STRANDS : PySem.W.nsIn K mainGlobals "MOST_STRANDS" = some (some (.int 6 tk_MOST_STRANDS)))
   {P_ z1 z2 z3 z4 z5 z6 : Addr} (n_P : PySem.W.nsIn K mainGlobals "PlaitError" = some (some (.ref P_)))
   (n_NoPlait : PySem.W.nsIn K mainGlobals "NoPlait" = some (some (.ref z1)))
   (n_NoRoom : PySem.W.nsIn K mainGlobals "NoRoom" = some (some (.ref z2)))
   (n_NoStep : PySem.W.nsIn K mainGlobals "NoStep" = some (some (.ref z3)))
   (n_NoNumber : PySem.W.nsIn K mainGlobals "NoNumber" = some (some (.ref z4)))
   (n_NoTable : PySem.W.nsIn K mainGlobals "NoTable" = some (some (.ref z5)))
   (n_BadNote : PySem.W.nsIn K mainGlobals "BadNote" = some (some (.ref z6)))
   (x_all : xAll K P_ [("NoPlait", z1), ("NoRoom", z2), ("NoStep", z3), ("NoNumber", z4), ("NoTable", z5), ("BadNote", z6)] = true)
   : ∃ fd : FuncData, (∀ (s : Shared) (v : Value), BindsTo s fd ⟨[v], []⟩ [("script", v)]) ∧ ∀ base : Heap, K.In base → base.Ns mainGlobals mg → FnOk l.prog w K mg base CX0 9 fa fd ["script"] (dSp K sp_law) := by
 have e := hfa.symm.trans (PySem.W.mg_of X G a35)
 cases e
 have XS : Xs K mg P_ [("NoPlait", z1), ("NoRoom", z2), ("NoStep", z3), ("NoNumber", z4), ("NoTable", z5), ("BadNote", z6)] := ⟨PySem.W.mg_of X G n_P, fun c hc => by
   simp only [List.mem_cons, List.not_mem_nil, or_false] at hc
   rcases hc with rfl | rfl | rfl | rfl | rfl | rfl
   · exact PySem.W.mg_of X G n_NoPlait
   · exact PySem.W.mg_of X G n_NoRoom
   · exact PySem.W.mg_of X G n_NoStep
   · exact PySem.W.mg_of X G n_NoNumber
   · exact PySem.W.mg_of X G n_NoTable
   · exact PySem.W.mg_of X G n_BadNote
   , x_all⟩
 have Z : Zs K P_ z1 z2 z3 z4 z5 z6 mg := ⟨XS, PySem.W.mg_none_of X G z_ValueError, PySem.W.mg_none_of X G z_abs, PySem.W.mg_none_of X G z_all, PySem.W.mg_none_of X G z_isinstance, PySem.W.mg_none_of X G z_len, PySem.W.mg_none_of X G z_list, PySem.W.mg_none_of X G z_max, PySem.W.mg_none_of X G z_range, PySem.W.mg_none_of X G z_reversed, PySem.W.mg_none_of X G z_sorted, PySem.W.mg_none_of X G z_tuple, ⟨tk_MOST_LETTERS, PySem.W.mg_of X G g_MOST_LETTERS⟩, ⟨tk_MOST_LETTERS_IN_FORM, PySem.W.mg_of X G g_MOST_LETTERS_IN_FORM⟩, ⟨tk_MOST_STRANDS, PySem.W.mg_of X G g_MOST_STRANDS⟩⟩
 have F1 := fun_mk (st := s_is_letter) l1 c1 k1
 have b1 := F1.binds (ps := ["strands", "letter"]) fun _ _ _ _ _ _ us hl => len_2 (P := fun us => bindArgs _ ⟨us, []⟩ = pure (List.zip _ us)) hl (fun _ _ => rfl)
 have F2 := fun_mk (st := s_is_word) l2 c2 k2
 have b2 := F2.binds (ps := ["strands", "word", "most"]) fun _ _ _ _ _ _ us hl => len_3 (P := fun us => bindArgs _ ⟨us, []⟩ = pure (List.zip _ us)) hl (fun _ _ _ => rfl)
 have F3 := fun_mk (st := s_is_plait) l3 c3 k3
 have b3 := F3.binds (ps := ["plait"]) fun _ _ _ _ _ _ us hl => len_1 (P := fun us => bindArgs _ ⟨us, []⟩ = pure (List.zip _ us)) hl (fun _ => rfl)
 have F4 := fun_mk (st := s_looked) l4 c4 k4
 have b4 := F4.binds (ps := ["plait"]) fun _ _ _ _ _ _ us hl => len_1 (P := fun us => bindArgs _ ⟨us, []⟩ = pure (List.zip _ us)) hl (fun _ => rfl)
 have F5 := fun_mk (st := s_looked_both) l5 c5 k5
 have b5 := F5.binds (ps := ["one", "other"]) fun _ _ _ _ _ _ us hl => len_2 (P := fun us => bindArgs _ ⟨us, []⟩ = pure (List.zip _ us)) hl (fun _ _ => rfl)
 have F6 := fun_mk (st := s_contrary) l6 c6 k6
 have b6 := F6.binds (ps := ["word"]) fun _ _ _ _ _ _ us hl => len_1 (P := fun us => bindArgs _ ⟨us, []⟩ = pure (List.zip _ us)) hl (fun _ => rfl)
 have F7 := fun_mk (st := s_exchanged) l7 c7 k7
 have b7 := F7.binds (ps := ["row", "at"]) fun _ _ _ _ _ _ us hl => len_2 (P := fun us => bindArgs _ ⟨us, []⟩ = pure (List.zip _ us)) hl (fun _ _ => rfl)
 have F8 := fun_mk (st := s_places_in) l8 c8 k8
 have b8 := F8.binds (ps := ["order"]) fun _ _ _ _ _ _ us hl => len_1 (P := fun us => bindArgs _ ⟨us, []⟩ = pure (List.zip _ us)) hl (fun _ => rfl)
 have F9 := fun_mk (st := s_plain_order) l9 c9 k9
 have b9 := F9.binds (ps := ["strands"]) fun _ _ _ _ _ _ us hl => len_1 (P := fun us => bindArgs _ ⟨us, []⟩ = pure (List.zip _ us)) hl (fun _ => rfl)
 have F10 := fun_mk (st := s_half_twist) l10 c10 k10
 have b10 := F10.binds (ps := ["strands"]) fun _ _ _ _ _ _ us hl => len_1 (P := fun us => bindArgs _ ⟨us, []⟩ = pure (List.zip _ us)) hl (fun _ => rfl)
 have F11 := fun_mk (st := s_can_begin) l11 c11 k11
 have b11 := F11.binds (ps := ["order", "letter"]) fun _ _ _ _ _ _ us hl => len_2 (P := fun us => bindArgs _ ⟨us, []⟩ = pure (List.zip _ us)) hl (fun _ _ => rfl)
 have F12 := fun_mk (st := s_letters_in) l12 c12 k12
 have b12 := F12.binds (ps := ["order"]) fun _ _ _ _ _ _ us hl => len_1 (P := fun us => bindArgs _ ⟨us, []⟩ = pure (List.zip _ us)) hl (fun _ => rfl)
 have F13 := fun_mk (st := s_flipped_order) l13 c13 k13
 have b13 := F13.binds (ps := ["order"]) fun _ _ _ _ _ _ us hl => len_1 (P := fun us => bindArgs _ ⟨us, []⟩ = pure (List.zip _ us)) hl (fun _ => rfl)
 have F14 := fun_mk (st := s_order_for) l14 c14 k14
 have b14 := F14.binds (ps := ["strands", "letter"]) fun _ _ _ _ _ _ us hl => len_2 (P := fun us => bindArgs _ ⟨us, []⟩ = pure (List.zip _ us)) hl (fun _ _ => rfl)
 have F15 := fun_mk (st := s_moved_ahead) l15 c15 k15
 have b15 := F15.binds (ps := ["one", "other"]) fun _ _ _ _ _ _ us hl => len_2 (P := fun us => bindArgs _ ⟨us, []⟩ = pure (List.zip _ us)) hl (fun _ _ => rfl)
 have F16 := fun_mk (st := s_put_behind) l16 c16 k16
 have b16 := F16.binds (ps := ["orders", "order"]) fun _ _ _ _ _ _ us hl => len_2 (P := fun us => bindArgs _ ⟨us, []⟩ = pure (List.zip _ us)) hl (fun _ _ => rfl)
 have F17 := fun_mk (st := s_form_by_letters) l17 c17 k17
 have b17 := F17.binds (ps := ["strands", "word"]) fun _ _ _ _ _ _ us hl => len_2 (P := fun us => bindArgs _ ⟨us, []⟩ = pure (List.zip _ us)) hl (fun _ _ => rfl)
 have F18 := fun_mk (st := s_form_of) l18 c18 k18
 have b18 := F18.binds (ps := ["plait"]) fun _ _ _ _ _ _ us hl => len_1 (P := fun us => bindArgs _ ⟨us, []⟩ = pure (List.zip _ us)) hl (fun _ => rfl)
 have F19 := fun_mk (st := s_form_by) l19 c19 k19
 have b19 := F19.binds (ps := ["strands", "word"]) fun _ _ _ _ _ _ us hl => len_2 (P := fun us => bindArgs _ ⟨us, []⟩ = pure (List.zip _ us)) hl (fun _ _ => rfl)
 have F20 := fun_mk (st := s_same_form) l20 c20 k20
 have b20 := F20.binds (ps := ["one", "other"]) fun _ _ _ _ _ _ us hl => len_2 (P := fun us => bindArgs _ ⟨us, []⟩ = pure (List.zip _ us)) hl (fun _ _ => rfl)
 have F21 := fun_mk (st := s_can_stand) l21 c21 k21
 have b21 := F21.binds (ps := ["strands", "order"]) fun _ _ _ _ _ _ us hl => len_2 (P := fun us => bindArgs _ ⟨us, []⟩ = pure (List.zip _ us)) hl (fun _ _ => rfl)
 have F22 := fun_mk (st := s_can_stand_behind) l22 c22 k22
 have b22 := F22.binds (ps := ["order", "other"]) fun _ _ _ _ _ _ us hl => len_2 (P := fun us => bindArgs _ ⟨us, []⟩ = pure (List.zip _ us)) hl (fun _ _ => rfl)
 have F23 := fun_mk (st := s_is_form) l23 c23 k23
 have b23 := F23.binds (ps := ["strands", "form"]) fun _ _ _ _ _ _ us hl => len_2 (P := fun us => bindArgs _ ⟨us, []⟩ = pure (List.zip _ us)) hl (fun _ _ => rfl)
 have F24 := fun_mk (st := s_word_of) l24 c24 k24
 have b24 := F24.binds (ps := ["strands", "form"]) fun _ _ _ _ _ _ us hl => len_2 (P := fun us => bindArgs _ ⟨us, []⟩ = pure (List.zip _ us)) hl (fun _ _ => rfl)
 have F25 := fun_mk (st := s__law_cell_at) l25 c25 k25
 have b25 := F25.binds (ps := ["script", "k"]) fun _ _ _ _ _ _ us hl => len_2 (P := fun us => bindArgs _ ⟨us, []⟩ = pure (List.zip _ us)) hl (fun _ _ => rfl)
 have F26 := fun_mk (st := s__law_state) l26 c26 k26
 have b26 := F26.binds (ps := ["script", "k"]) fun _ _ _ _ _ _ us hl => len_2 (P := fun us => bindArgs _ ⟨us, []⟩ = pure (List.zip _ us)) hl (fun _ _ => rfl)
 have F27 := fun_mk (st := s__law_choice) l27 c27 k27
 have b27 := F27.binds (ps := ["state", "many"]) fun _ _ _ _ _ _ us hl => len_2 (P := fun us => bindArgs _ ⟨us, []⟩ = pure (List.zip _ us)) hl (fun _ _ => rfl)
 have F28 := fun_mk (st := s__law_word) l28 c28 k28
 have b28 := F28.binds (ps := ["state", "strands", "count"]) fun _ _ _ _ _ _ us hl => len_3 (P := fun us => bindArgs _ ⟨us, []⟩ = pure (List.zip _ us)) hl (fun _ _ _ => rfl)
 have F29 := fun_mk (st := s__law_plait) l29 c29 k29
 have b29 := F29.binds (ps := ["state", "least", "most", "letters"]) fun _ _ _ _ _ _ us hl => len_4 (P := fun us => bindArgs _ ⟨us, []⟩ = pure (List.zip _ us)) hl (fun _ _ _ _ => rfl)
 have F30 := fun_mk (st := s__law_bad) l30 c30 k30
 have b30 := F30.binds (ps := ["state"]) fun _ _ _ _ _ _ us hl => len_1 (P := fun us => bindArgs _ ⟨us, []⟩ = pure (List.zip _ us)) hl (fun _ => rfl)
 have F31 := fun_mk (st := s__law_marks) l31 c31 k31
 have b31 := F31.binds (ps := ["e"]) fun _ _ _ _ _ _ us hl => len_1 (P := fun us => bindArgs _ ⟨us, []⟩ = pure (List.zip _ us)) hl (fun _ => rfl)
 have F32 := fun_mk (st := s__law_refused) l32 c32 k32
 have b32 := F32.binds (ps := ["marks", "which"]) fun _ _ _ _ _ _ us hl => len_2 (P := fun us => bindArgs _ ⟨us, []⟩ = pure (List.zip _ us)) hl (fun _ _ => rfl)
 have F33 := fun_mk (st := s__law_called) l33 c33 k33
 have b33 := F33.binds (ps := ["way", "one", "other"]) fun _ _ _ _ _ _ us hl => len_3 (P := fun us => bindArgs _ ⟨us, []⟩ = pure (List.zip _ us)) hl (fun _ _ _ => rfl)
 have F34 := fun_mk (st := s__law_told) l34 c34 k34
 have b34 := F34.binds (ps := ["way", "one", "other"]) fun _ _ _ _ _ _ us hl => len_3 (P := fun us => bindArgs _ ⟨us, []⟩ = pure (List.zip _ us)) hl (fun _ _ _ => rfl)
 have F35 := fun_mk (st := s_law) l35 c35 k35
 refine ⟨PySem.W.fnOf "law" "law" (defArgs s_law) (defBody s_law) (defScope s_law) .none kV35 dc35 pm35 an35 cd35 ct35, fun s v => .of_eq rfl, fun base _ _ => ?_⟩
 have D1 := ok_is_letter (P := l.prog) (w := w) (base := base) (n := 0) F1 (PySem.W.mg_of X G a1) b1 Z 
 have D2 := ok_is_word (P := l.prog) (w := w) (base := base) (n := 1) F2 (PySem.W.mg_of X G a2) b2 Z (D1.mono (by decide))
 have D3 := ok_is_plait (P := l.prog) (w := w) (base := base) (n := 2) F3 (PySem.W.mg_of X G a3) b3 Z (D2.mono (by decide))
 have D4 := ok_looked (P := l.prog) (w := w) (base := base) (n := 3) F4 (PySem.W.mg_of X G a4) b4 Z (D3.mono (by decide))
 have D5 := ok_looked_both (P := l.prog) (w := w) (base := base) (n := 4) F5 (PySem.W.mg_of X G a5) b5 Z (D4.mono (by decide))
 have D6 := ok_contrary (P := l.prog) (w := w) (base := base) (n := 0) F6 (PySem.W.mg_of X G a6) b6 Z 
 have D7 := ok_exchanged (P := l.prog) (w := w) (base := base) (n := 0) F7 (PySem.W.mg_of X G a7) b7 Z 
 have D8 := ok_places_in (P := l.prog) (w := w) (base := base) (n := 0) F8 (PySem.W.mg_of X G a8) b8 Z 
 have D9 := ok_plain_order (P := l.prog) (w := w) (base := base) (n := 0) F9 (PySem.W.mg_of X G a9) b9 Z 
 have D10 := ok_half_twist (P := l.prog) (w := w) (base := base) (n := 0) F10 (PySem.W.mg_of X G a10) b10 Z 
 have D11 := ok_can_begin (P := l.prog) (w := w) (base := base) (n := 0) F11 (PySem.W.mg_of X G a11) b11 Z 
 have D12 := ok_letters_in (P := l.prog) (w := w) (base := base) (n := 1) F12 (PySem.W.mg_of X G a12) b12 Z (D11.mono (by decide)) (D7.mono (by decide))
 have D13 := ok_flipped_order (P := l.prog) (w := w) (base := base) (n := 0) F13 (PySem.W.mg_of X G a13) b13 Z 
 have D14 := ok_order_for (P := l.prog) (w := w) (base := base) (n := 1) F14 (PySem.W.mg_of X G a14) b14 Z (D7.mono (by decide)) (D9.mono (by decide)) (D10.mono (by decide))
 have D15 := ok_moved_ahead (P := l.prog) (w := w) (base := base) (n := 1) F15 (PySem.W.mg_of X G a15) b15 Z (D10.mono (by decide)) (D13.mono (by decide)) (D8.mono (by decide)) (D11.mono (by decide)) (D7.mono (by decide))
 have D16 := ok_put_behind (P := l.prog) (w := w) (base := base) (n := 2) F16 (PySem.W.mg_of X G a16) b16 Z (D15.mono (by decide)) (D9.mono (by decide))
 have D17 := ok_form_by_letters (P := l.prog) (w := w) (base := base) (n := 3) F17 (PySem.W.mg_of X G a17) b17 Z (D14.mono (by decide)) (D13.mono (by decide)) (D16.mono (by decide)) (D10.mono (by decide))
 have D18 := ok_form_of (P := l.prog) (w := w) (base := base) (n := 4) F18 (PySem.W.mg_of X G a18) b18 Z (D4.mono (by decide)) (D17.mono (by decide))
 have D19 := ok_form_by (P := l.prog) (w := w) (base := base) (n := 4) F19 (PySem.W.mg_of X G a19) b19 Z (D2.mono (by decide)) (D17.mono (by decide))
 have D20 := ok_same_form (P := l.prog) (w := w) (base := base) (n := 5) F20 (PySem.W.mg_of X G a20) b20 Z (D5.mono (by decide)) (D18.mono (by decide))
 have D21 := ok_can_stand (P := l.prog) (w := w) (base := base) (n := 1) F21 (PySem.W.mg_of X G a21) b21 Z (D9.mono (by decide)) (D10.mono (by decide))
 have D22 := ok_can_stand_behind (P := l.prog) (w := w) (base := base) (n := 1) F22 (PySem.W.mg_of X G a22) b22 Z (D8.mono (by decide)) (D11.mono (by decide))
 have D23 := ok_is_form (P := l.prog) (w := w) (base := base) (n := 2) F23 (PySem.W.mg_of X G a23) b23 Z (D21.mono (by decide)) (D22.mono (by decide))
 have D24 := ok_word_of (P := l.prog) (w := w) (base := base) (n := 3) F24 (PySem.W.mg_of X G a24) b24 Z (D23.mono (by decide)) (D12.mono (by decide)) (D10.mono (by decide)) (D6.mono (by decide))
 have D25 := ok__law_cell_at (P := l.prog) (w := w) (base := base) (n := 0) F25 (PySem.W.mg_of X G a25) b25 Z 
 have D26 := ok__law_state (P := l.prog) (w := w) (base := base) (n := 1) F26 (PySem.W.mg_of X G a26) b26 Z (D25.mono (by decide))
 have D27 := ok__law_choice (P := l.prog) (w := w) (base := base) (n := 0) F27 (PySem.W.mg_of X G a27) b27 Z 
 have D28 := ok__law_word (P := l.prog) (w := w) (base := base) (n := 1) F28 (PySem.W.mg_of X G a28) b28 Z (D27.mono (by decide))
 have D29 := ok__law_plait (P := l.prog) (w := w) (base := base) (n := 2) F29 (PySem.W.mg_of X G a29) b29 Z (D27.mono (by decide)) (D28.mono (by decide))
 have D30 := ok__law_bad (P := l.prog) (w := w) (base := base) (n := 2) F30 (PySem.W.mg_of X G a30) b30 Z (D27.mono (by decide)) (D28.mono (by decide))
 have D31 := ok__law_marks (P := l.prog) (w := w) (base := base) (n := 0) F31 (PySem.W.mg_of X G a31) b31 Z 
 have D32 := ok__law_refused (P := l.prog) (w := w) (base := base) (n := 0) F32 (PySem.W.mg_of X G a32) b32 Z 
 have D33 := ok__law_called (P := l.prog) (w := w) (base := base) (n := 6) F33 (PySem.W.mg_of X G a33) b33 Z (D18.mono (by decide)) (D19.mono (by decide)) (D20.mono (by decide)) (D24.mono (by decide))
 have D34 := ok__law_told (P := l.prog) (w := w) (base := base) (n := 7) F34 (PySem.W.mg_of X G a34) b34 Z (D33.mono (by decide)) (D31.mono (by decide))
 exact ok_law (n := 8) F35 Z (D26.mono (by decide)) (D29.mono (by decide)) (D30.mono (by decide)) (D27.mono (by decide)) (D32.mono (by decide)) (D34.mono (by decide))
end L2
namespace PySem.W.Fast
theorem tw5491314089646704417:True:=⟨⟩
theorem tw12268754860033782062:True:=⟨⟩
theorem tw11204763626955647069:True:=⟨⟩
theorem tw7639011933193123450:True:=⟨⟩
theorem tw2548103001806125463:True:=⟨⟩
theorem tw9904811572583304653:True:=⟨⟩
theorem tw11810163758735248458:True:=⟨⟩
theorem tw16172490177298690708:True:=⟨⟩
theorem tw13484537077218771421:True:=⟨⟩
theorem tw1552005205513187107:True:=⟨⟩
theorem tw2202291270563309608:True:=⟨⟩
theorem tw17264170947431578559:True:=⟨⟩
theorem tw17118014518457093630:True:=⟨⟩
theorem tw6421307278535635804:True:=⟨⟩
theorem tw664245769286793280:True:=⟨⟩
theorem tw1124218724345437924:True:=⟨⟩
theorem tw14765636011687066144:True:=⟨⟩
theorem tw15646402696544100560:True:=⟨⟩
theorem tw1787077931870503083:True:=⟨⟩
theorem tw1045180944439850950:True:=⟨⟩
theorem tw2386231882528176710:True:=⟨⟩
theorem tw14621999357024265439:True:=⟨⟩
theorem tw18241514454299223655:True:=⟨⟩
theorem tw15232959334603889790:True:=⟨⟩
theorem tw7216667971734699069:True:=⟨⟩
theorem tw10230326307163103263:True:=⟨⟩
theorem tw16160843152040542454:True:=⟨⟩
theorem tw5761030281580963601:True:=⟨⟩
theorem tw14929904811284558021:True:=⟨⟩
theorem tw12602405325703348556:True:=⟨⟩
theorem tw12223840526730994460:True:=⟨⟩
theorem tw17265595352590177904:True:=⟨⟩
theorem tw2561411429925496617:True:=⟨⟩
theorem tw861796834608393279:True:=⟨⟩
theorem tw14856693377037329171:True:=⟨⟩
theorem tw16681331134393984528:True:=⟨⟩
theorem tw6701970421609450724:True:=⟨⟩
theorem tw11787939948760116739:True:=⟨⟩
theorem tw5695483592685998875:True:=⟨⟩
theorem tw11313633011808565756:True:=⟨⟩
theorem tw8275400743068370766:True:=⟨⟩
theorem tw10430056467331999486:True:=⟨⟩
theorem tw17780068242346427533:True:=⟨⟩
theorem tw8517205503699763676:True:=⟨⟩
theorem tw5525213929709786301:True:=⟨⟩
theorem tw4545065470348729425:True:=⟨⟩
theorem tw7998525678679505646:True:=⟨⟩
theorem tw4641043952196695509:True:=⟨⟩
theorem tw14140298235858463771:True:=⟨⟩
theorem tw17475127154474325340:True:=⟨⟩
theorem tw10965338702016789332:True:=⟨⟩
theorem tw12260740138745082942:True:=⟨⟩
theorem tw18251443355709905589:True:=⟨⟩
theorem tw6397328677775630514:True:=⟨⟩
theorem tw15712603032811842669:True:=⟨⟩
theorem tw11382535969571657002:True:=⟨⟩
theorem tw17448527928907493381:True:=⟨⟩
theorem tw14699428841276505123:True:=⟨⟩
theorem tw7504877577241148155:True:=⟨⟩
theorem tw4754638796764627203:True:=⟨⟩
theorem tw16840530371896554761:True:=⟨⟩
theorem tw4938404518405905548:True:=⟨⟩
theorem tw5661255482745008462:True:=⟨⟩
theorem tw17413946202041756037:True:=⟨⟩
theorem tw1138852989060945555:True:=⟨⟩
theorem tw15892690691198226866:True:=⟨⟩
theorem tw2030606021666790325:True:=⟨⟩
theorem tw4530646810582566642:True:=⟨⟩
theorem tw5848062070195275738:True:=⟨⟩
theorem tw2581175528400003101:True:=⟨⟩
theorem tw14628165547508729206:True:=⟨⟩
theorem tw7657731709267088476:True:=⟨⟩
theorem tw11146544671821499093:True:=⟨⟩
theorem tw4653729127724638047:True:=⟨⟩
theorem tw6732740252787199883:True:=⟨⟩
theorem tw6577022475696944996:True:=⟨⟩
theorem tw2962120508383999354:True:=⟨⟩
theorem tw4240569242212639676:True:=⟨⟩
theorem tw6671057262417267119:True:=⟨⟩
theorem tw9704281994838452842:True:=⟨⟩
theorem tw13047768639123720284:True:=⟨⟩
theorem tw9611681215471107596:True:=⟨⟩
theorem tw3509018921162206568:True:=⟨⟩
theorem tw11075539494168577393:True:=⟨⟩
theorem tw11003959442602022539:True:=⟨⟩
theorem tw14954156542849852347:True:=⟨⟩
theorem tw4211204748349357194:True:=⟨⟩
theorem tw11555280706522089727:True:=⟨⟩
theorem tw2112865655638770121:True:=⟨⟩
theorem tw16463635196001246844:True:=⟨⟩
theorem tw2936605816078913835:True:=⟨⟩
theorem tw13296472193783384843:True:=⟨⟩
theorem tw4015766713653138085:True:=⟨⟩
theorem tw17079339620590138124:True:=⟨⟩
theorem tw15432774669317648169:True:=⟨⟩
theorem tw11593529844771013715:True:=⟨⟩
theorem tw573264826763202358:True:=⟨⟩
theorem tw16770752928634317011:True:=⟨⟩
theorem tw3951804063223948804:True:=⟨⟩
theorem tw4552921465865435074:True:=⟨⟩
theorem tw5746938085357700519:True:=⟨⟩
theorem tw4651477029105925111:True:=⟨⟩
theorem tw15838349932669972722:True:=⟨⟩
theorem tw17347767977845177004:True:=⟨⟩
theorem tw7571649445578312056:True:=⟨⟩
theorem tw12158171136882223111:True:=⟨⟩
theorem tw11451750450088701071:True:=⟨⟩
theorem tw2757225278138698166:True:=⟨⟩
theorem tw8435935819193752085:True:=⟨⟩
theorem tw12937825810968927525:True:=⟨⟩
theorem tw12526422876281083892:True:=⟨⟩
theorem tw13971593235109582241:True:=⟨⟩
theorem tw9679683048638135775:True:=⟨⟩
theorem tw8878594194866921491:True:=⟨⟩
theorem tw9387829074629499489:True:=⟨⟩
theorem tw6901137620678115622:True:=⟨⟩
theorem tw14619006175088053305:True:=⟨⟩
theorem tw14746012954313283702:True:=⟨⟩
theorem tw11779214847252834629:True:=⟨⟩
theorem tw5971129085037703059:True:=⟨⟩
theorem tw2748525615390753024:True:=⟨⟩
theorem tw3203522146064884940:True:=⟨⟩
theorem tw1747096822568329180:True:=⟨⟩
theorem tw6594058874978553860:True:=⟨⟩
theorem tw14958288156015751725:True:=⟨⟩
theorem tw4924900103113799900:True:=⟨⟩
theorem tw2462991020595567992:True:=⟨⟩
theorem tw1475902991844067415:True:=⟨⟩
theorem tw8452882679392211141:True:=⟨⟩
theorem tw11661854005816752988:True:=⟨⟩
theorem tw7665896590336480046:True:=⟨⟩
theorem tw17112434424986669844:True:=⟨⟩
theorem tw14367787755617302053:True:=⟨⟩
theorem tw1224257701121103789:True:=⟨⟩
theorem tw13696107570947841644:True:=⟨⟩
theorem tw16630064060696331300:True:=⟨⟩
theorem tw8196785933337861649:True:=⟨⟩
theorem tw7973088917057438646:True:=⟨⟩
theorem tw4992320996778248212:True:=⟨⟩
theorem tw1195985757296872332:True:=⟨⟩
theorem tw3728632836711221381:True:=⟨⟩
theorem tw11513845106788593330:True:=⟨⟩
theorem tw1370389388001933920:True:=⟨⟩
theorem tw8139417172948053564:True:=⟨⟩
theorem tw1450980178106544224:True:=⟨⟩
theorem tw1782089236059192243:True:=⟨⟩
theorem tw9037782038275142350:True:=⟨⟩
theorem tw1464447946642856509:True:=⟨⟩
theorem tw7240087809304764084:True:=⟨⟩
theorem tw915192872601692015:True:=⟨⟩
theorem tw7203435605678954068:True:=⟨⟩
theorem tw6360491250756618176:True:=⟨⟩
theorem tw14287199201581992205:True:=⟨⟩
theorem tw11627753956994066085:True:=⟨⟩
theorem tw8749100566436747827:True:=⟨⟩
theorem tw10184724628379244601:True:=⟨⟩
theorem tw18008945182968459729:True:=⟨⟩
theorem tw1979040786164874487:True:=⟨⟩
theorem tw8992431678199397075:True:=⟨⟩
theorem tw6057375905210022855:True:=⟨⟩
theorem tw15908081687645490423:True:=⟨⟩
theorem tw13291872827876071728:True:=⟨⟩
theorem tw14318838309944906195:True:=⟨⟩
theorem tw15207584198941125770:True:=⟨⟩
theorem tw7163898554522246815:True:=⟨⟩
theorem tw11392624904401587545:True:=⟨⟩
theorem tw10645796862724767190:True:=⟨⟩
theorem tw5826437813520748357:True:=⟨⟩
theorem tw10271371467210961171:True:=⟨⟩
theorem tw3576254310928861080:True:=⟨⟩
theorem tw12408591675684928997:True:=⟨⟩
theorem tw9034073066636730828:True:=⟨⟩
theorem tw3674925778502302585:True:=⟨⟩
theorem tw3882132051260845840:True:=⟨⟩
theorem tw1671516099481235408:True:=⟨⟩
theorem tw1136077854245251227:True:=⟨⟩
theorem tw13171052360509241287:True:=⟨⟩
theorem tw9057684816164367832:True:=⟨⟩
theorem tw9807716899100098899:True:=⟨⟩
theorem tw4248640720799814466:True:=⟨⟩
theorem tw4708997716197818917:True:=⟨⟩
theorem tw6311555930010080057:True:=⟨⟩
theorem tw7432127167741590023:True:=⟨⟩
theorem tw6627482265870933055:True:=⟨⟩
theorem tw13067924824072273452:True:=⟨⟩
theorem tw14154306009064306794:True:=⟨⟩
theorem tw13462606596665449388:True:=⟨⟩
theorem tw10964574500314376285:True:=⟨⟩
theorem tw5334038157187813137:True:=⟨⟩
theorem tw1657438219286838352:True:=⟨⟩
theorem tw16085735707985978195:True:=⟨⟩
theorem tw15893318515505231212:True:=⟨⟩
theorem tw15191285669391392614:True:=⟨⟩
theorem tw3340873396547409209:True:=⟨⟩
theorem tw10884692585960110917:True:=⟨⟩
theorem tw4759650248171432544:True:=⟨⟩
theorem tw13344055646368993821:True:=⟨⟩
theorem tw17719427897591782269:True:=⟨⟩
theorem tw1787556290339252502:True:=⟨⟩
theorem tw5263970468184220851:True:=⟨⟩
theorem tw1050841524587253582:True:=⟨⟩
theorem tw825751310892370038:True:=⟨⟩
theorem tw6589804949320052428:True:=⟨⟩
theorem tw273826153230905814:True:=⟨⟩
theorem tw731231476523988261:True:=⟨⟩
theorem tw7729468967468614533:True:=⟨⟩
theorem tw955158701868535336:True:=⟨⟩
theorem tw7652394989609665380:True:=⟨⟩
theorem tw15786738863056501801:True:=⟨⟩
theorem tw1399280857451336567:True:=⟨⟩
theorem tw16132504707347622126:True:=⟨⟩
theorem tw9622209400343746151:True:=⟨⟩
theorem tw12806721232436736250:True:=⟨⟩
theorem tw4352339353101115377:True:=⟨⟩
theorem tw2084715428617436135:True:=⟨⟩
theorem tw6108405589988730932:True:=⟨⟩
theorem tw17504910702884616999:True:=⟨⟩
theorem tw4305492124615276057:True:=⟨⟩
theorem tw6501732255698352122:True:=⟨⟩
theorem tw10896149230674697795:True:=⟨⟩
theorem tw2059002941558036756:True:=⟨⟩
theorem tw4000630030200727429:True:=⟨⟩
theorem tw6856051701034354005:True:=⟨⟩
theorem tw18441695342287145650:True:=⟨⟩
theorem tw17778425238446146189:True:=⟨⟩
theorem tw9667263008834783986:True:=⟨⟩
theorem tw8087922931266079139:True:=⟨⟩
theorem tw1089055344556476640:True:=⟨⟩
theorem tw6155071498400533365:True:=⟨⟩
theorem tw9300421022409800883:True:=⟨⟩
theorem tw3381901033746126585:True:=⟨⟩
theorem tw11781945873544650159:True:=⟨⟩
theorem tw794961547191554793:True:=⟨⟩
theorem tw16863837385661745886:True:=⟨⟩
theorem tw10884296958512221563:True:=⟨⟩
theorem tw7867692260409231171:True:=⟨⟩
theorem tw4121905948685389592:True:=⟨⟩
theorem tw4320896661106893598:True:=⟨⟩
theorem tw4902736717763653511:True:=⟨⟩
theorem tw4687459472139510559:True:=⟨⟩
theorem tw2084387710311853508:True:=⟨⟩
theorem tw13157426666074823705:True:=⟨⟩
theorem tw3834992523986753625:True:=⟨⟩
theorem tw13022287329527008975:True:=⟨⟩
theorem tw9463027578296671256:True:=⟨⟩
theorem tw2026830931525234511:True:=⟨⟩
theorem tw3617781996583979664:True:=⟨⟩
theorem tw5181606122445028036:True:=⟨⟩
theorem tw2410205960210805603:True:=⟨⟩
theorem tw5797681680267058981:True:=⟨⟩
theorem tw13903826342017488480:True:=⟨⟩
theorem tw17178253746088065258:True:=⟨⟩
theorem tw13018708823105528273:True:=⟨⟩
theorem tw18050502975850930089:True:=⟨⟩
theorem tw10762237326455420866:True:=⟨⟩
theorem tw14543339402254226875:True:=⟨⟩
theorem tw4324110422140375303:True:=⟨⟩
theorem tw8664708563338514440:True:=⟨⟩
theorem tw4780510974301690394:True:=⟨⟩
theorem tw11106744178253697570:True:=⟨⟩
theorem tw14394603306130884014:True:=⟨⟩
theorem tw8154416502408958423:True:=⟨⟩
theorem tw1979922803837452356:True:=⟨⟩
theorem tw14298261778091612672:True:=⟨⟩
theorem tw10866542116988646664:True:=⟨⟩
theorem tw16221010665509632575:True:=⟨⟩
theorem tw12918462271942908473:True:=⟨⟩
theorem tw515129687500219352:True:=⟨⟩
theorem tw17263473277074260243:True:=⟨⟩
theorem tw7981238919921037145:True:=⟨⟩
theorem tw15104995764876263696:True:=⟨⟩
theorem tw11653491794814834805:True:=⟨⟩
theorem tw3305366273520536686:True:=⟨⟩
theorem tw26497150543651635:True:=⟨⟩
theorem tw10042949055014225084:True:=⟨⟩
theorem tw16127541205274416686:True:=⟨⟩
theorem tw12103705546364105118:True:=⟨⟩
theorem tw4118885232062420016:True:=⟨⟩
theorem tw5995346500375216825:True:=⟨⟩
theorem tw3400578787410101208:True:=⟨⟩
theorem tw6392601945587210384:True:=⟨⟩
theorem tw18288316995440484968:True:=⟨⟩
theorem tw10705034241159167736:True:=⟨⟩
theorem tw17951145401824396968:True:=⟨⟩
theorem tw13048232927090844884:True:=⟨⟩
theorem tw3212207443942457888:True:=⟨⟩
theorem tw15350997360667898514:True:=⟨⟩
theorem tw6553463502451464877:True:=⟨⟩
theorem tw6118970475679585546:True:=⟨⟩
theorem tw16685582575941580647:True:=⟨⟩
theorem tw13172168315254840221:True:=⟨⟩
theorem tw2068295318995897230:True:=⟨⟩
theorem tw10924697815979920459:True:=⟨⟩
theorem tw3101890844944826051:True:=⟨⟩
theorem tw16782015937449349177:True:=⟨⟩
theorem tw6015272110231575500:True:=⟨⟩
theorem tw5650666039483384274:True:=⟨⟩
theorem tw13104838553629303382:True:=⟨⟩
theorem tw4619954887538406706:True:=⟨⟩
theorem tw6858796320950869150:True:=⟨⟩
theorem tw18151608048438954523:True:=⟨⟩
theorem tw7660502284341602193:True:=⟨⟩
theorem tw1845499111870768308:True:=⟨⟩
theorem tw3819128847907821672:True:=⟨⟩
theorem tw17887308275582122349:True:=⟨⟩
theorem tw8712621884092816576:True:=⟨⟩
theorem tw12171260755185753540:True:=⟨⟩
theorem tw2872746454799990818:True:=⟨⟩
theorem tw2457822717419410443:True:=⟨⟩
theorem tw10624534809803941390:True:=⟨⟩
theorem tw11494111581859207516:True:=⟨⟩
theorem tw2680522447814918392:True:=⟨⟩
theorem tw8261280075435817220:True:=⟨⟩
theorem tw16411357225314930276:True:=⟨⟩
theorem tw16893729384244034196:True:=⟨⟩
theorem tw14789396381354554233:True:=⟨⟩
theorem tw9044590820632884615:True:=⟨⟩
theorem tw4765447626402440890:True:=⟨⟩
theorem tw8239342864215582223:True:=⟨⟩
theorem tw4834184374906488430:True:=⟨⟩
theorem tw8519536753206155533:True:=⟨⟩
theorem tw7151609832390370381:True:=⟨⟩
theorem tw17052102781938807748:True:=⟨⟩
theorem tw6179611804053647237:True:=⟨⟩
theorem tw4507472750081088842:True:=⟨⟩
theorem tw15141729972060933817:True:=⟨⟩
theorem tw13956505335028628500:True:=⟨⟩
theorem tw16520048708805169229:True:=⟨⟩
theorem tw1854400144897284696:True:=⟨⟩
theorem tw4131514843643830871:True:=⟨⟩
theorem tw7885921117353223315:True:=⟨⟩
theorem tw5596840095261700839:True:=⟨⟩
theorem tw14939753506563841864:True:=⟨⟩
theorem tw13886376838315447702:True:=⟨⟩
theorem tw16026699844980360225:True:=⟨⟩
theorem tw11117135291672703386:True:=⟨⟩
theorem tw1251112079168680541:True:=⟨⟩
theorem tw7813561759918463170:True:=⟨⟩
theorem tw11120145430812751099:True:=⟨⟩
theorem tw2430576680421100448:True:=⟨⟩
theorem tw4525556815148293237:True:=⟨⟩
theorem tw9035435854459475573:True:=⟨⟩
theorem tw8939885886966267824:True:=⟨⟩
theorem tw14567155040790996923:True:=⟨⟩
theorem tw6633037410497439533:True:=⟨⟩
theorem tw2946191445377107918:True:=⟨⟩
theorem tw7742091005969439357:True:=⟨⟩
theorem tw1806534019542931780:True:=⟨⟩
theorem tw11395502537402858949:True:=⟨⟩
theorem tw13280221559227059942:True:=⟨⟩
theorem tw9821509629263888631:True:=⟨⟩
theorem tw34576966198031731:True:=⟨⟩
theorem tw6743739512604779331:True:=⟨⟩
theorem tw2025142297274170235:True:=⟨⟩
theorem tw6516084891809836970:True:=⟨⟩
theorem tw7744758165121635207:True:=⟨⟩
theorem tw17021929919463430350:True:=⟨⟩
theorem tw14555593924131328961:True:=⟨⟩
theorem tw3389344237584037772:True:=⟨⟩
theorem tw14378640700843320102:True:=⟨⟩
theorem tw13849797863049912026:True:=⟨⟩
theorem tw11730193986297337400:True:=⟨⟩
theorem tw8756050462268782342:True:=⟨⟩
theorem tw4921796490629148686:True:=⟨⟩
theorem tw4138618959993044439:True:=⟨⟩
theorem tw10523567601117708313:True:=⟨⟩
theorem tw18424451794381145596:True:=⟨⟩
theorem tw17029768133616411899:True:=⟨⟩
theorem tw2778755461833391358:True:=⟨⟩
end PySem.W.Fast
open PySem PySem.W PyProof.Rows
set_option maxRecDepth 100000 in
set_option maxHeartbeats 0 in
theorem PySem.Challenge.cw_loopwright_k31_forms_refused_holds : PySem.Challenge.rw_loopwright_k31_forms_refused.Holds := by
 w_on; o_law; k_head; (case hw => w_witness2)
 k_fill
 refine L2.law_walk (l := PySem.Challenge.rw_loopwright_k31_forms_refused) (k := 9) (sp := L2.sp_law) rfl rfl ⟨rfl, by decide, by decide⟩ (fun w h Y => PySem.W.kIn_of Y) L2.law_starts ?F
 case F =>
   intro w mg fa h KX G hmg
   refine' L2.all_mk KX G hmg ?a1 ?l1 ?c1 ?k1 ?a2 ?l2 ?c2 ?k2 ?a3 ?l3 ?c3 ?k3 ?a4 ?l4 ?c4 ?k4 ?a5 ?l5 ?c5 ?k5 ?a6 ?l6 ?c6 ?k6 ?a7 ?l7 ?c7 ?k7 ?a8 ?l8 ?c8 ?k8 ?a9 ?l9 ?c9 ?k9 ?a10 ?l10 ?c10 ?k10 ?a11 ?l11 ?c11 ?k11 ?a12 ?l12 ?c12 ?k12 ?a13 ?l13 ?c13 ?k13 ?a14 ?l14 ?c14 ?k14 ?a15 ?l15 ?c15 ?k15 ?a16 ?l16 ?c16 ?k16 ?a17 ?l17 ?c17 ?k17 ?a18 ?l18 ?c18 ?k18 ?a19 ?l19 ?c19 ?k19 ?a20 ?l20 ?c20 ?k20 ?a21 ?l21 ?c21 ?k21 ?a22 ?l22 ?c22 ?k22 ?a23 ?l23 ?c23 ?k23 ?a24 ?l24 ?c24 ?k24 ?a25 ?l25 ?c25 ?k25 ?a26 ?l26 ?c26 ?k26 ?a27 ?l27 ?c27 ?k27 ?a28 ?l28 ?c28 ?k28 ?a29 ?l29 ?c29 ?k29 ?a30 ?l30 ?c30 ?k30 ?a31 ?l31 ?c31 ?k31 ?a32 ?l32 ?c32 ?k32 ?a33 ?l33 ?c33 ?k33 ?a34 ?l34 ?c34 ?k34 ?a35 ?l35 ?c35 ?k35 ?z_ValueError ?z_abs ?z_all ?z_isinstance ?z_len ?z_list ?z_max ?z_range ?z_reversed ?z_sorted ?z_tuple ?g_MOST_LETTERS ?g_MOST_LETTERS_IN_FORM ?g_MOST_STRANDS ?n_P ?n_NoPlait ?n_NoRoom ?n_NoStep ?n_NoNumber ?n_NoTable ?n_BadNote ?x_all
   (case a1 => k_is)
   (case l1 => k_is)
   (case c1 => k_is)
   (case k1 => k_is)
   (case a2 => k_is)
   (case l2 => k_is)
   (case c2 => k_is)
   (case k2 => k_is)
   (case a3 => k_is)
   (case l3 => k_is)
   (case c3 => k_is)
   (case k3 => k_is)
   (case a4 => k_is)
   (case l4 => k_is)
   (case c4 => k_is)
   (case k4 => k_is)
   (case a5 => k_is)
   (case l5 => k_is)
   (case c5 => k_is)
   (case k5 => k_is)
   (case a6 => k_is)
   (case l6 => k_is)
   (case c6 => k_is)
   (case k6 => k_is)
   (case a7 => k_is)
   (case l7 => k_is)
   (case c7 => k_is)
   (case k7 => k_is)
   (case a8 => k_is)
   (case l8 => k_is)
   (case c8 => k_is)
   (case k8 => k_is)
   (case a9 => k_is)
   (case l9 => k_is)
   (case c9 => k_is)
   (case k9 => k_is)
   (case a10 => k_is)
   (case l10 => k_is)
   (case c10 => k_is)
   (case k10 => k_is)
   (case a11 => k_is)
   (case l11 => k_is)
   (case c11 => k_is)
   (case k11 => k_is)
   (case a12 => k_is)
   (case l12 => k_is)
   (case c12 => k_is)
   (case k12 => k_is)
   (case a13 => k_is)
   (case l13 => k_is)
   (case c13 => k_is)
   (case k13 => k_is)
   (case a14 => k_is)
   (case l14 => k_is)
   (case c14 => k_is)
   (case k14 => k_is)
   (case a15 => k_is)
   (case l15 => k_is)
   (case c15 => k_is)
   (case k15 => k_is)
   (case a16 => k_is)
   (case l16 => k_is)
   (case c16 => k_is)
   (case k16 => k_is)
   (case a17 => k_is)
   (case l17 => k_is)
   (case c17 => k_is)
   (case k17 => k_is)
   (case a18 => k_is)
   (case l18 => k_is)
   (case c18 => k_is)
   (case k18 => k_is)
   (case a19 => k_is)
   (case l19 => k_is)
   (case c19 => k_is)
   (case k19 => k_is)
   (case a20 => k_is)
   (case l20 => k_is)
   (case c20 => k_is)
   (case k20 => k_is)
   (case a21 => k_is)
   (case l21 => k_is)
   (case c21 => k_is)
   (case k21 => k_is)
   (case a22 => k_is)
   (case l22 => k_is)
   (case c22 => k_is)
   (case k22 => k_is)
   (case a23 => k_is)
   (case l23 => k_is)
   (case c23 => k_is)
   (case k23 => k_is)
   (case a24 => k_is)
   (case l24 => k_is)
   (case c24 => k_is)
   (case k24 => k_is)
   (case a25 => k_is)
   (case l25 => k_is)
   (case c25 => k_is)
   (case k25 => k_is)
   (case a26 => k_is)
   (case l26 => k_is)
   (case c26 => k_is)
   (case k26 => k_is)
   (case a27 => k_is)
   (case l27 => k_is)
   (case c27 => k_is)
   (case k27 => k_is)
   (case a28 => k_is)
   (case l28 => k_is)
   (case c28 => k_is)
   (case k28 => k_is)
   (case a29 => k_is)
   (case l29 => k_is)
   (case c29 => k_is)
   (case k29 => k_is)
   (case a30 => k_is)
   (case l30 => k_is)
   (case c30 => k_is)
   (case k30 => k_is)
   (case a31 => k_is)
   (case l31 => k_is)
   (case c31 => k_is)
   (case k31 => k_is)
   (case a32 => k_is)
   (case l32 => k_is)
   (case c32 => k_is)
   (case k32 => k_is)
   (case a33 => k_is)
   (case l33 => k_is)
   (case c33 => k_is)
   (case k33 => k_is)
   (case a34 => k_is)
   (case l34 => k_is)
   (case c34 => k_is)
   (case k34 => k_is)
   (case a35 => k_is)
   (case l35 => k_is)
   (case c35 => k_is)
   (case k35 => k_is)
   (case z_ValueError => k_is)
   (case z_abs => k_is)
   (case z_all => k_is)
   (case z_isinstance => k_is)
   (case z_len => k_is)
   (case z_list => k_is)
   (case z_max => k_is)
   (case z_range => k_is)
   (case z_reversed => k_is)
   (case z_sorted => k_is)
   (case z_tuple => k_is)
   (case g_MOST_LETTERS => k_is)
   (case g_MOST_LETTERS_IN_FORM => k_is)
   (case g_MOST_STRANDS => k_is)
   (case n_P => k_is)
   (case n_NoPlait => k_is)
   (case n_NoRoom => k_is)
   (case n_NoStep => k_is)
   (case n_NoNumber => k_is)
   (case n_NoTable => k_is)
   (case n_BadNote => k_is)
   (case x_all => kernel_rfl)
